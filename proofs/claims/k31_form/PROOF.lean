import PyProof.Rows.All
import Wide.All
import OpenK.AllK
import Wide.FinOn
import Lean
import PyProof.EqAt
import PyProof.EqKinds
import PyProof.TupleCall
import PySem.Challenge.RW_printwell_k31_form
set_option Elab.async false
set_option linter.all false
set_option maxRecDepth 100000
set_option maxHeartbeats 0
noncomputable section
open List (mem_cons_self mem_cons_of_mem mem_append_left mem_append_right size_toArray length_cons map_cons length_map append_nil of_mem_zip length_take getElem?_append_left getElem?_map mem_of_getElem? length_append length_drop map_nil any_cons replicate_succ flatten_cons foldl append_assoc length_singleton getElem?_eq_getElem mem_flatMap mem_map mem_append cons_append reverse_append length_reverse length_nil flatMap_cons flatten_nil singleton_append drop_eq_getElem_cons take_append_drop map_map map_id map_congr_left sum_cons getD_eq_getElem?_getD map_append take_length find?_cons nodup_nil mem_cons not_mem_nil flatMap_append take_zero take_nil reverse_cons foldl_append sum_append sum_nil dropLast_concat reverse_reverse map_reverse exists_mem_of_ne_nil nodup_cons pairwise_map)
open Nat (lt_of_lt_of_le lt_irrefl ne_of_lt le_trans le_of_lt le_refl zero_le le_of_eq lt_succ_self mul_comm add_le_add_left mul_le_mul_left succ_le_succ add_mul mul_le_mul le_succ_of_le lt_succ_of_lt mul_le_mul_right le_add_right mul_assoc one_mul zero_add add_assoc add_le_add_right mul_add)
open PySem.W (instObj methodObj hideAll hideAll_get of_hideAll Frag lookIn plainGet hasDictIn findIn handedIn plainGet_of isFn plainOver takerIn makesIn emptyDict keepIn callWith_K fnOf codeIn excIn nsIn mg_of)
open PySem.F (plainAttrs_dict slot_dict_get plainAttrs_str plainAttrs_list slot_list_pop type_list_pop slot_list_extend type_list_extend)
open PyProof.Rows (split_pos boot_min boot_int boot_str boot_max boot_tuple)
open Bool (and_eq_true false_eq_true)
abbrev cJ:=PySem.Value->PySem.Shared->Prop
abbrev c7:=List (PySem.Addr×PySem.Obj)
abbrev eV:=PySem.Str->Option PySem.Value
local macro_rules|`(⋯)=>`(by decide +kernel)
theorem aC{n m:Nat}(h:Nat.ble n m=true:=by rfl):n<=m:=Nat.le_of_ble_eq_true h
namespace L2
open PySem PySem.Spec PyProof.Rows
abbrev Key:=Sum Int Str
def tY:Key->Value->Bool
 |.inl k,v=>Value.isInt k v
 |.inr x,v=>Value.isStrOf x v
def dm(w:World):Key->Int
 |.inl k=>hashInt k
 |.inr x=>hashStr w x
theorem oH:∀ {k:Key} {v:Value},tY k v=true->(∃i t,k=Sum.inl i/\v=Value.int i t)\/(∃x t,k=Sum.inr x/\v=Value.str x t)
 |.inl i,v,h=>by
  obtain⟨t,e⟩:=Value.isInt_shape (k:=i) (v:=v) h;exact .inl ⟨i,t,rfl,e⟩
 |.inr x,v,h=>by
  obtain⟨t,e⟩:=Value.isStrOf_shape (x:=x) (v:=v) h;exact .inr ⟨x,t,rfl,e⟩
theorem dn(i:Int)(t:Tok):tY (.inl i) (.int i t)=true:=by simp[tY,Value.isInt]
theorem nQ(x:Str)(t:Tok):tY (.inr x) (.str x t)=true:=by simp[tY,Value.isStrOf]
theorem dq(a b:Int):decide ((Sum.inl a:Key)=Sum.inl b)=(a==b):=by
 by_cases e:a=b
 ·subst e;simp
 ·have h:¬(Sum.inl a:Key)=Sum.inl b:=λq=>e (Sum.inl.inj q)
  rw[decide_eq_false h];exact(beq_eq_false_iff_ne.mpr e).symm
theorem dr(a b:Str):decide ((Sum.inr a:Key)=Sum.inr b)=decide (a=b):=by
 by_cases e:a=b
 ·subst e;simp
 ·have h:¬(Sum.inr a:Key)=Sum.inr b:=λq=>e (Sum.inr.inj q)
  rw[decide_eq_false h,decide_eq_false e]
theorem dt(a:Int)(b:Str):decide ((Sum.inl a:Key)=Sum.inr b)=false:=decide_eq_false (λq=>nomatch q)
theorem du(a:Str)(b:Int):decide ((Sum.inr a:Key)=Sum.inl b)=false:=decide_eq_false (λq=>nomatch q)
def eG (prog : Program) (w : World) : PySem.KeyKind prog w Key where
  is := tY
  hash := dm w
  inj := λv a b ha hb => by
    rcases oH ha with ⟨i, t, rfl, rfl⟩ | ⟨x, t, rfl, rfl⟩
    · rcases oH hb with ⟨j, u, rfl, e⟩ | ⟨y, u, rfl, e⟩
      · injection e with e1 _; rw [e1]
      · exact nomatch e
    · rcases oH hb with ⟨j, u, rfl, e⟩ | ⟨y, u, rfl, e⟩
      · exact nomatch e
      · injection e with e1 _; rw [e1]
  byValue := λk v h => by
    rcases oH h with ⟨i, t, rfl, rfl⟩ | ⟨x, t, rfl, rfl⟩ <;> rfl
  pyHash := λhv h => by
    rcases oH hv with ⟨i, t, rfl, rfl⟩ | ⟨x, t, rfl, rfl⟩
    · exact wpAny_pyHash_int h
    · exact wpAny_pyHash_str h
  eqBool := λhu hv h => by
    rcases oH hu with ⟨i, t, rfl, rfl⟩ | ⟨x, t, rfl, rfl⟩
    · rcases oH hv with ⟨j, u, rfl, rfl⟩ | ⟨y, u, rfl, rfl⟩
      · rw [dq] at h; exact wpAny_eqBool_int h
      · rw [dt] at h; exact SeqAt.EqAt.int_str i t y u _ _ _ _ h
    · rcases oH hv with ⟨j, u, rfl, rfl⟩ | ⟨y, u, rfl, rfl⟩
      · rw [du] at h; exact SeqAt.EqAt.str_int x t j u _ _ _ _ h
      · rw [dr] at h; exact wpAny_eqBool_str h
  «strs» := λk x t v h => by
    rcases oH h with ⟨i, u, rfl, e⟩ | ⟨y, u, rfl, e⟩
    · exact nomatch e
    · injection e with e1 _
      subst e1;cases v <;> rfl
theorem dA(prog:Program)(w:World)(i:Int)(t:Tok):(eG prog w).is (.inl i) (.int i t)=true:=dn i t
theorem xT(prog:Program)(w:World)(x:Str)(t:Tok):(eG prog w).is (.inr x) (.str x t)=true:=nQ x t
inductive V where
 |non|bl (b:Bool)|int (i:Int)|str (x:Str)|jA (b:Array UInt8)|flt (b:UInt64)|ref (a:Addr)|ty (n:String)
 deriving DecidableEq
def RelV:V->Value->Prop
 |.non,u=>u=Value.none
 |.bl b,u=>u=Value.bool b
 |.int i,u=>∃t,u=Value.int i t
 |.str x,u=>∃t,u=Value.str x t
 |.jA b,u=>∃t,u=Value.bytes b t
 |.flt b,u=>∃t,u=Value.float b t
 |.ref a,u=>u=Value.ref a
 |.ty n,u=>u=Value.type n
abbrev Vals:List V->List Value->Prop:=Paired RelV
theorem Vals.length{xs:List V}{us:List Value}(r:Vals xs us):xs.length=us.length:=Paired.length r
theorem Vals.get:∀ {xs:List V} {us:List Value} {i:Nat} {x:V},Vals xs us->xs[i]? = some x->∃u,us[i]? = some u/\RelV x u
 |_,_,_,_,.nil,e=>by simp at e
 |_,_,0,_,.cons r _,e=>by simp at e;subst e;exact⟨_,rfl,r⟩
 |_,_,i+1,x,.cons _ t,e=>by
  obtain⟨u,h1,h2⟩:=Vals.get (i:=i) (x:=x) t (by simpa using e);exact⟨u,by simpa using h1,h2⟩
theorem Vals.append:∀ {xs ys:List V} {us ws:List Value},Vals xs us->Vals ys ws->Vals (xs++ys) (us++ws)
 |_,_,_,_,.nil,s=>s
 |_,_,_,_,.cons r t,s=>.cons r (Vals.append t s)
theorem Vals.take:∀ {xs:List V} {us:List Value} (n:Nat),Vals xs us->Vals (xs.take n) (us.take n)
 |_,_,0,_=>.nil
 |_,_,_+1,.nil=>.nil
 |_,_,n+1,.cons r t=>.cons r (Vals.take n t)
theorem Vals.drop:∀ {xs:List V} {us:List Value} (n:Nat),Vals xs us->Vals (xs.drop n) (us.drop n)
 |_,_,0,r=>r
 |_,_,_+1,.nil=>.nil
 |_,_,n+1,.cons _ t=>Vals.drop n t
def jr:Option V->Option Value->Prop
 |some v,some u=>RelV v u
 |none,none=>True
 |_,_=>False
def KV{κ:Type}:List (κ×V)->List (κ×Value)->Prop:=Paired λ(p:κ×V) (q:κ×Value)=>p.1=q.1/\RelV p.2 q.2
def kV:Key->V
 |.inl i=>.int i
 |.inr x=>.str x
inductive HO where
 |lst (xs:List V)
 |tup (xs:List V)
 |dK (kvs:List (Key×V))|dT (kvs:List (List Key×V))
 |set (S:Int->Bool) (n:Nat)
 |ins (C dx:Addr) (fs:List (Str×V))
 |own (x:Addr)
 |xd (fs:List (Str×V))
 |met (f x:Addr)
 |rng (lo hi:Int)
 |d6 (o:Obj) (u:HO)
 |qQ (ps:Array Value)
 |ext (φ:Heap->Prop)
abbrev Hp:=Addr->Option HO
def upd(H:Hp)(a:Addr)(o:HO):Hp:=λb=>if b=a then some o else H b
theorem a8{H:Hp}{a:Addr}{o:HO}:upd H a o a=some o:=by unfold upd;rw[if_pos rfl]
theorem aJ{H:Hp}{a b:Addr}{o:HO}(h:b≠a):upd H a o b=H b:=by unfold upd;rw[if_neg h]
theorem cR{H:Hp}{a b:Addr}{o u:HO}(h:H a=some o)(h':H b=some u)(d:o≠u):a≠b:=by
 intro e;subst e;rw[h] at h';exact d (Option.some.inj h')
theorem c6{H:Hp}{a b:Addr}{o:HO}(h:H a=some o)(h':H b=none):a≠b:=by
 intro e;subst e;rw[h] at h';cases h'
section
variable (P:Program)(w:World)
def gB(H:Hp)(h:Heap)(a:Addr):HO->Prop
 |.lst xs=>xs.length<=sizeLine/\∃(its:List Value) (n:Nat),Vals xs its/\h.get? a=some { cls:=.type "list",data:=.seq its.toArray n }
 |.tup xs=>xs.length<=sizeLine/\∃its:List Value,Vals xs its/\IsTup h a its.toArray
 |.dK kvs=>kvs.length<=sizeLine/\(a==sysModules)=false/\∃vs,KV kvs vs/\h.DictOf (eG P w) a vs
 |.dT kvs=>kvs.length<=sizeLine/\(a==sysModules)=false/\∃xs:List (List Key×Addr×Value),
   Paired (λ(p:List Key×V) (q:List Key×Addr×Value)=>p.1=q.1/\H q.2.1=some (.tup (p.1.map kV))/\RelV p.2 q.2.2) kvs xs/\
   ∃o es ep,h.get? a=some o/\o.ExactDict/\o.data=.dict es ep/\es.toList=xs.map (entryOfKey (tupleKind (eG P w)))/\(xs.map (·.1)).Nodup
 |.set S n=>h.SetOf (intKind P w) a S n
 |.ins C dx fs=>H dx=some (.own a)/\fs.length<=1000/\dx≠a/\h.get? a=some (instObj C dx)/\
   ∃mA,h.Ns1 dx mA/\(∀f,jr (fs.lookup f) (mA f))/\PySem.Within mA (fs.map (·.1))
 |.own _=>∃o,h.get? a=some o
 |.xd fs=>∃mA,h.Ns1 a mA/\∀f,jr (fs.lookup f) (mA f)
 |.rng lo hi=>∃t u v,h.get? a=some { cls:=.type "range",data:=.fields #[.int lo t,.int hi u,.int 1 v] }
 |.d6 o u=>h.get? a=some o/\gB H h a u
 |.qQ ps=>h.get? a=some { cls:=.none,data:=.fields ps }
 |.met f x=>h.get? a=some (methodObj (.ref f) (.ref x))
 |.ext φ=>φ h/\(∃o,h.get? a=some o)/\∀h1 h2:Heap,φ h1->(∀o,h1.get? a=some o->h2.get? a=some o)->φ h2
def eX(H:Hp)(h:Heap):Prop:=∀a o,H a=some o->gB P w H h a o
end
section
variable {P:Program}{w:World}{H H':Hp}{h h':Heap}{a:Addr}{o:HO}
theorem gB.lt(x:gB P w H h a o):a<h.objs.size:=by
 cases o with
 |lst xs=>obtain⟨_,_,_,_,e⟩:=x;exact Heap.lt_size e
 |tup xs=>obtain⟨_,_,_,p⟩:=x;exact p.lt
 |dK kvs=>obtain⟨_,_,_,_,o,_,_,e,_⟩:=x;exact Heap.lt_size e
 |dT kvs=>obtain⟨_,_,_,_,o,_,_,e,_⟩:=x;exact Heap.lt_size e
 |set S n=>obtain⟨o,_,_,_,e,_⟩:=x;exact Heap.lt_size e
 |ins C dx fs=>obtain⟨_,_,_,e,_⟩:=x;exact Heap.lt_size e
 |own y=>obtain⟨_,e⟩:=x;exact Heap.lt_size e
 |xd fs=>obtain⟨_,⟨_,_,_,e,_⟩,_⟩:=x;exact Heap.lt_size e
 |rng lo hi=>obtain⟨_,_,_,e⟩:=x;exact Heap.lt_size e
 |d6 ob u=>obtain⟨e,_⟩:=x;exact Heap.lt_size e
 |qQ ps=>exact Heap.lt_size (show h.get? a=some _ from x)
 |met f y=>exact Heap.lt_size (show h.get? a=some _ from x)
 |ext φ=>obtain⟨_,⟨_,e⟩,_⟩:=x;exact Heap.lt_size e
theorem Paired.gJ{α β:Type}{F G:α->β->Prop}:∀ {l₁:List α} {l₂:List β},Paired F l₁ l₂->(∀a b,F a b->G a b)->Paired G l₁ l₂
 |_,_,.nil,_=>.nil
 |_,_,.cons r t,f=>.cons (f _ _ r) (Paired.gJ t f)
theorem gB.stay(x:gB P w H h a o)(k:∀b u,(b=a\/H b=some (.own a))->h.get? b=some u->h'.get? b=some u)
  (ho:∀b,H b=some (.own a)->H' b=some (.own a)) (ht:∀b xs,H b=some (.tup xs)->H' b=some (.tup xs)):gB P w H' h' a o:=by
 induction o with
 |lst xs=>obtain⟨z,its,n,r,e⟩:=x;exact⟨z,its,n,r,k _ _ (.inl rfl) e⟩
 |tup xs=>obtain⟨z,its,r,ob,e,c⟩:=x;exact⟨z,its,r,ob,k _ _ (.inl rfl) e,c⟩
 |dK kvs=>obtain⟨z,y,vs,r,ob,es,ep,e,c⟩:=x;exact⟨z,y,vs,r,ob,es,ep,k _ _ (.inl rfl) e,c⟩
 |dT kvs=>
  obtain⟨z,y,xs,r,ob,es,ep,e,c⟩:=x;exact⟨z,y,xs,Paired.gJ r λp q z=>⟨z.1,ht _ _ z.2.1,z.2.2⟩,ob,es,ep,k _ _ (.inl rfl) e,c⟩
 |set S n=>obtain⟨ob,es,ep,t,e,c⟩:=x;exact⟨ob,es,ep,t,k _ _ (.inl rfl) e,c⟩
 |ins C dx fs=>
  obtain⟨d,z,ne,e,mA,⟨od,es,ep,e2,c⟩,r⟩:=x;exact⟨ho _ d,z,ne,k _ _ (.inl rfl) e,mA,⟨od,es,ep,k _ _ (.inr d) e2,c⟩,r⟩
 |own y=>obtain⟨ob,e⟩:=x;exact⟨ob,k _ _ (.inl rfl) e⟩
 |xd fs=>obtain⟨mA,⟨od,es,ep,e,c⟩,r⟩:=x;exact⟨mA,⟨od,es,ep,k _ _ (.inl rfl) e,c⟩,r⟩
 |rng lo hi=>obtain⟨t,u,v,e⟩:=x;exact⟨t,u,v,k _ _ (.inl rfl) e⟩
 |d6 ob u ih=>obtain⟨e,q⟩:=x;exact⟨k _ _ (.inl rfl) e,ih q⟩
 |qQ ps=>
  have e:h.get? a=some { cls:=.none,data:=.fields ps }:=x;show h'.get? a=some { cls:=.none,data:=.fields ps };exact k a _ (.inl rfl) e
 |met f y=>
  have e:h.get? a=some (methodObj (.ref f) (.ref y)):=x;show h'.get? a=some (methodObj (.ref f) (.ref y));exact k a _ (.inl rfl) e
 |ext φ=>obtain⟨p,⟨o,e⟩,st⟩:=x;exact⟨st _ _ p λo q=>k _ _ (.inl rfl) q,⟨o,k _ _ (.inl rfl) e⟩,st⟩
theorem eX.lt(x:eX P w H h)(e:H a=some o):a<h.objs.size:=(x a o e).lt
theorem eX.fresh(x:eX P w H h)(e:h.objs.size<=a):H a=none:=by
 cases q:H a with
 |none=>rfl
 |some u=>exact absurd (lt_of_lt_of_le (x.lt q) e) (lt_irrefl _)
theorem eX.kept(x:eX P w H h)(k:∀b u,h.get? b=some u->h'.get? b=some u):eX P w H h':=λa o e=>
 (x a o e).stay (λb u _ q=>k b u q) (λ_ q=>q) λ_ _ q=>q
theorem eX.laid(x:eX P w H h)(k:∀b u,h.get? b=some u->h'.get? b=some u)(hp:h.objs.size<=a)(new:gB P w (upd H a o) h' a o):eX P w (upd H a o) h':=λb u e=>by
 have hn:=x.fresh hp
 by_cases hb:b=a
 ·subst hb;rw[a8] at e;cases e;exact new
 ·rw[aJ hb] at e
  exact(x b u e).stay (λc v _ q=>k c v q) (λc q=>by rw[aJ (c6 q hn)];exact q) λc xs q=>by rw[aJ (c6 q hn)];exact q
end
def Rd(H:Hp)(a:Addr)(u:HO):Prop:=H a=some u\/∃o,H a=some (.d6 o u)
theorem Rd.ok{P:Program}{w:World}{H:Hp}{h:Heap}{a:Addr}{u:HO}(r:Rd H a u)(x:eX P w H h):gB P w H h a u:=by
 rcases r with r|⟨o,r⟩
 ·exact x a u r
 ·obtain⟨_,q⟩:=x a _ r
  exact q
def xU:Option HO->Prop
 |some (.lst _)=>True
 |some (.dK _)=>True
 |some (.dT _)=>True
 |some (.set _ _)=>True
 |some (.ins _ _ _)=>True
 |some (.ext _)=>True
 |_=>False
section
variable {P:Program}{w:World}{H:Hp}{h h':Heap}{x e:Addr}{o':HO}
theorem eX.write(ok:eX P w H h)(mu:xU (H x))(he:e=x\/H e=some (.own x))(k:∀b u,b≠e->h.get? b=some u->h'.get? b=some u)(heo:∃u,h'.get? e=some u)
  (new:gB P w (upd H x o') h' x o'):eX P w (upd H x o') h':=λb u q=>by
 have Qy:∀c y,H c=some (.own y)->c≠x:=λc y r z=>by subst z;rw[r] at mu;exact mu
 have dC:∀c xs,H c=some (.tup xs)->c≠x:=λc xs r z=>by subst z;rw[r] at mu;exact mu
 by_cases hb:b=x
 ·subst hb;rw[a8] at q;cases q;exact new
 ·rw[aJ hb] at q
  by_cases hbe:b=e
  ·have q':H b=some (.own x):=by
    rcases he with z|z
    ·exact absurd (hbe.trans z) hb
    ·rw[hbe];exact z
   rw[q] at q';cases q'
   obtain⟨v,hv⟩:=heo;exact⟨v,by rw[hbe];exact hv⟩
  ·refine(ok b u q).stay (λc v hc r=>k c v ?_ r) (λc r=>by rw[aJ (Qy c b r)];exact r) λc xs r=>by rw[aJ (dC c xs r)];exact r
   rcases hc with rfl|hc
   ·exact hbe
   ·rintro rfl
    rcases he with z|z
    ·exact Qy c b hc z
    ·rw[hc] at z;cases z;exact hb rfl
end
structure Un(fs ex:List Addr)(H H':Hp)(h h':Heap):Prop where
 keep:∀b o,h.get? b=some o->H b=none->b∉fs->b∉ex->h'.get? b=some o
 slot:∀b o,h.get? b=some o->H b=none->b∈fs->b∉ex->∃sl,h'.get? b=some { o with slots:=sl }
 free:∀b o,h.get? b=some o->H b=none->b∉ex->H' b=none
 there:∀b o,h.get? b=some o->b∉ex->∃o',h'.get? b=some o'
 tups:∀b xs,H b=some (.tup xs)->H' b=some (.tup xs)
 lH:∀b o u,H b=some (.d6 o u)->H' b=some (.d6 o u)
 mQ:∀b ps,H b=some (.qQ ps)->∃more,H' b=some (.qQ (ps++more))
section
variable {fs fs' ex ex':List Addr}{H H1 H2:Hp}{h h1 h2 h':Heap}{a x e:Addr}{o:HO}
theorem Un.any(u:Un fs ex H H1 h h1){b:Addr}{ob:Obj}(q:h.get? b=some ob)(n:H b=none)(hx:b∉ex):∃sl,h1.get? b=some { ob with slots:=sl }:=by
 by_cases hb:b∈fs
 ·exact u.slot b ob q n hb hx
 ·exact⟨ob.slots,u.keep b ob q n hb hx⟩
theorem Un.kept(k:∀b u,h.get? b=some u->h'.get? b=some u):Un fs ex H H h h':=
 ⟨λb ob q _ _ _=>k b ob q,λb ob q _ _ _=>⟨ob.slots,k b ob q⟩,λ_ _ _ n _=>n,λb ob q _=>⟨ob,k b ob q⟩,λ_ _ q=>q,λ_ _ _ q=>q,λ_ ps q=>⟨#[],by rw[q];simp⟩⟩
theorem Un.refl:Un fs ex H H h h:=Un.kept λ_ _ q=>q
theorem Un.laid(k:∀b u,h.get? b=some u->h'.get? b=some u)(hp:h.objs.size<=a)(hn:H a=none):Un fs ex H (upd H a o) h h' where
 keep:=λb u q _ _ _=>k b u q
 slot:=λb u q _ _ _=>⟨u.slots,k b u q⟩
 free:=λb u q n _=>by rw[aJ (ne_of_lt (lt_of_lt_of_le (Heap.lt_size q) hp))];exact n
 there:=λb u q _=>⟨u,k b u q⟩
 tups:=λb xs q=>by rw[aJ (c6 q hn)];exact q
 lH:=λb u xs q=>by rw[aJ (c6 q hn)];exact q
 mQ:=λb ps q=>⟨#[],by rw[aJ (c6 q hn),q];simp⟩
theorem Un.write(mu:xU (H x))(he:e=x\/H e=some (.own x))(k:∀b u,b≠e->h.get? b=some u->h'.get? b=some u)(heo:∃u,h'.get? e=some u):Un fs ex H (upd H x o) h h':=by
 have hx:∀b,H b=none->b≠x:=λb n z=>by subst z;rw[n] at mu;exact mu
 have hb:∀b,H b=none->b≠e:=λb n z=>by
  subst z;rcases he with r|r
  ·exact hx b n r
  ·rw[n] at r;cases r
 have hm:∀b u,H b=some u->¬xU (some u)->b≠x:=λb u q nm z=>by subst z;rw[q] at mu;exact nm mu
 refine⟨λb u q n _ _=>k b u (hb b n) q,λb u q n _ _=>⟨u.slots,k b u (hb b n) q⟩,λb u q n _=>by rw[aJ (hx b n)];exact n,λb u q _=>?_,
  λb xs q=>by rw[aJ (hm b _ q λz=>z)];exact q,λb u xs q=>by rw[aJ (hm b _ q λz=>z)];exact q,λb ps q=>⟨#[],by rw[aJ (hm b _ q λz=>z),q];simp⟩⟩
 by_cases hbe:b=e
 ·subst hbe;exact heo
 ·exact⟨u,k b u hbe q⟩
end
def Ax(h:Heap)(H:Hp):List Addr:=(List.range h.objs.size).filter λa=>(H a).isSome
def pL(h:Heap)(H:Hp):Heap:=hideAll h (Ax h H)
theorem dL(h:Heap)(H:Hp):(pL h H).objs.size=h.objs.size:=PySem.W.hideAll_size _ _
theorem dQ{h:Heap}{H:Hp}{b:Addr}{o:Obj}(e:h.get? b=some o)(n:H b=none):(pL h H).get? b=some o:=
 hideAll_get _ e λhm=>by
  have q:(H b).isSome=true:=(List.mem_filter.mp hm).2;rw[n] at q;simp at q
theorem dS{h:Heap}{H:Hp}{b:Addr}{o:Obj}(e:(pL h H).get? b=some o):h.get? b=some o/\H b=none:=by
 have e':h.get? b=some o:=of_hideAll (Ax h H) e;refine⟨e',?_⟩;cases q:H b with
 |none=>rfl
 |some x=>
  have hm:b∈Ax h H:=List.mem_filter.mpr ⟨List.mem_range.mpr (Heap.lt_size e'),by simp[q]⟩;have z:(pL h H).get? b=none:=PySem.W.hideAll_none (Ax h H) hm;rw[z] at e;cases e
def eg(g h:Heap)(L:Addr):c7:=(List.range h.objs.size).filterMap λa=>if a=L\/(g.get? a).isSome=true then none else(h.get? a).map λo=>(a,o)
def rest(g h:Heap)(L d:Addr):c7:=(eg g h L).filter λp=>decide (p.1≠d)
structure Mod(K:Frag)(mg:eV)(base:Heap):Prop where
 vB:K.In base
 glob:base.Ns mainGlobals mg
 blt:∃mb,base.Ns builtinsNs mb/\∀x:Str,x≠"__name__"->mb x=bootBuiltins x
 nolimit:base.NoLimit
structure Cx where
 prog:Program
 w:World
 K:Frag
 mg:Str->Option Value
 base:Heap
 A:Around
 N:List Str
 s₀:Shared
 H₀:Hp
 env:Env
 outer:List Env
 stack:List Env
 ex:List Addr
 fn:Str->Bool
 calm:Bool
 pn:c7
 xe:Value->Shared->Prop
def frs(l:List Env):List Addr:=l.filterMap (·.frame)
abbrev Cx.fs(X:Cx):List Addr:=frs X.outer
def xV(sc:Scope)(x:Str):Prop:=sc.names.lookup x=some .local\/sc.names.lookup x=some .cell\/sc.names.lookup x=some .free
def Loc(sc:Scope)(x:Str):Prop:=sc.names.lookup x=some .local\/sc.names.lookup x=some .cell
def Look(env:Env)(h:Heap)(m:eV)(x:Str)(u:Value):Prop:=
 (env.kindOf x=some .local/\m x=some u)\/((env.kindOf x=some .cell\/env.kindOf x=some .free)/\∃c,env.cells.lookup x=some c/\h.IsCell c (some u))
structure Cx.Ok(X:Cx):Prop where
 mod:Mod X.K X.mg X.base
 kind:X.env.scope.kind=.function
 glob:X.env.globals=mainGlobals
 blt:X.env.builtins=builtinsNs
 above:X.s₀.heap.objs.size<=X.env.locals
 inj:∀x y c,X.env.cells.lookup x=some c->X.env.cells.lookup y=some c->x=y
 has:∀x,(X.env.kindOf x=some .cell\/X.env.kindOf x=some .free)->∃c,X.env.cells.lookup x=some c
 cab:∀x c,X.fn x=true->X.env.cells.lookup x=some c->X.s₀.heap.objs.size<=c
 hd:X.calm=true->X.A.handled=none
 frames:X.A.frames=some X.stack
 stk:X.stack=X.outer\/(X.stack=X.env::X.outer/\X.env.frame=some X.env.locals)
 Qz:∀b∈X.ex,b≠X.env.locals/\∀x c,X.env.cells.lookup x=some c->c≠b
 bs:∀b o,X.base.get? b=some o->X.s₀.heap.get? b=some o/\X.H₀ b=none
 oJ:X.base.objs.size<=X.s₀.heap.objs.size
 xW:∀b o,X.base.get? b=some o->b∉X.ex
 Ay:∀b∈X.ex,b∉X.fs
 mV:X.s₀.heap.FunFrames X.base X.outer
 tZ:∀b∈X.fs,X.H₀ b=none
structure Inv(X:Cx)(pins:c7)(σ:List (Option V))(H:Hp)(s:Shared):Prop where
 ok:X.Ok
 os:s.os=X.s₀.os
 bare:AllBare s.gens
 base:Un X.fs X.ex X.H₀ H X.s₀.heap s.heap
 loc:∃m,s.heap.Ns X.env.locals m/\∀(i:Nat) (x:Str) (v:V),X.N[i]? = some x->σ[i]? = some (some v)->xV X.env.scope x->∃u,RelV v u/\Look X.env s.heap m x u
 cell:∀x c,X.env.cells.lookup x=some c->∃v,s.heap.IsCell c v
 free:H X.env.locals=none
 mX:∀x c,X.env.cells.lookup x=some c->H c=none
 pin:∀p∈X.pn++pins,s.heap.get? p.1=some p.2/\H p.1=none/\p.1≠X.env.locals/\p.1∉X.fs/\∀v,p.2.data≠.cell v
 hok:eX X.prog X.w H s.heap
 len:σ.length=X.N.length
section
variable {X:Cx}{pins:c7}{σ:List (Option V)}{H H':Hp}{s:Shared}{h':Heap}
theorem Cx.Ok.eh(ok:X.Ok){b:Addr}{o:Obj}(e:X.base.get? b=some o):b∉X.fs:=λhb=>by
 have:=(ok.mV.mem hb).1;rw[e] at this;cases this
theorem Inv.bs(I:Inv X pins σ H s):∀b o,X.base.get? b=some o->s.heap.get? b=some o/\H b=none:=λb o e=>
 ⟨I.base.keep b o (I.ok.bs b o e).1 (I.ok.bs b o e).2 (I.ok.eh e) (I.ok.xW b o e),I.base.free b o (I.ok.bs b o e).1 (I.ok.bs b o e).2 (I.ok.xW b o e)⟩
theorem Inv.bk(I:Inv X pins σ H s):∀b o,X.base.get? b=some o->s.heap.get? b=some o:=λb o e=>(I.bs b o e).1
theorem Inv.mod(I:Inv X pins σ H s):Mod X.K X.mg X.base:=I.ok.mod
theorem Inv.jW(I:Inv X pins σ H s):X.K.In s.heap:=I.ok.mod.vB.keeps I.bk
theorem Inv.fr(I:Inv X pins σ H s):∃m,Fr X.base X.env.locals s.heap m:=
 let ⟨m,hn,_⟩:=I.loc
 ⟨m,hn,I.bk,le_trans I.ok.oJ I.ok.above⟩
theorem Inv.lt(I:Inv X pins σ H s):X.env.locals<s.heap.objs.size:=let ⟨_,hn,_⟩:=I.loc;hn.lt
theorem Inv.sz(I:Inv X pins σ H s):X.s₀.heap.objs.size<=s.heap.objs.size:=le_trans I.ok.above (le_of_lt I.lt)
theorem Inv.ez(I:Inv X pins σ H s){a:Addr}(h:s.heap.objs.size<=a):a∉X.fs:=λhb=>by
 obtain⟨_,o,ho,_⟩:=I.ok.mV.mem hb;exact absurd (lt_of_lt_of_le (Heap.lt_size ho) (le_trans I.sz h)) (lt_irrefl _)
theorem Inv.u0(I:Inv X pins σ H s):∀x c,X.env.cells.lookup x=some c->c≠X.env.locals:=λx c e z=>by
 obtain⟨v,o,ho,hd⟩:=I.cell x c e;obtain⟨m,⟨o',es,ep,ho',hd',_⟩,_⟩:=I.loc;rw[z,ho'] at ho;cases ho;rw[hd'] at hd;cases hd
theorem Inv.mV(I:Inv X pins σ H s):s.heap.FunFrames X.base X.outer:=by
 have all:∀(l:List Env),(∀b∈frs l,b∈X.fs)->X.s₀.heap.FunFrames X.base l->s.heap.FunFrames X.base l:=by
  intro l
  induction l with
  |nil=>intro _ _;trivial
  |cons env r ih=>
   intro hs hl;obtain⟨hk,⟨L,o,hf,hn,ho,hd⟩,hr⟩:=hl;have hL:L∈X.fs:=hs L (by unfold frs;rw[List.filterMap_cons,hf];exact mem_cons_self);obtain⟨sl,e⟩:=I.base.slot L o ho (I.ok.tZ L hL) hL λz=>I.ok.Ay L z hL
   exact⟨hk,⟨L,_,hf,hn,e,hd⟩,ih (λb hb=>hs b (by unfold frs;rw[List.filterMap_cons,hf];exact mem_cons_of_mem _ hb)) hr⟩
 exact all X.outer (λ_ hb=>hb) I.ok.mV
theorem Inv.stack(I:Inv X pins σ H s):s.heap.FunFrames X.base X.stack:=by
 rcases I.ok.stk with e|⟨e,hf⟩
 ·rw[e];exact I.mV
 ·rw[e]
  obtain⟨m,hn,_⟩:=I.loc;refine .cons (by rw[I.ok.kind];decide) hf hn ?_ I.mV;exact Heap.get?_none_of_le (le_trans I.ok.oJ I.ok.above)
theorem Inv.xX(I:Inv X pins σ H s):∀b∈frs X.stack,b∈X.env.locals::X.fs:=λb hb=>by
 rcases I.ok.stk with e|⟨e,hf⟩
 ·rw[e] at hb;exact mem_cons_of_mem _ hb
 ·rw[e] at hb
  unfold frs at hb
  rw[List.filterMap_cons,hf] at hb
  exact hb
theorem Inv.E9(I:Inv X pins σ H s):∀b∈frs X.stack,H b=none:=λb hb=>by
 rcases List.mem_cons.mp (I.xX b hb) with e|hb
 ·rw[e];exact I.free
 ·obtain⟨_,o,ho,_⟩:=I.ok.mV.mem hb
  exact I.base.free b o ho (I.ok.tZ b hb) λz=>I.ok.Ay b z hb
theorem Inv.step{g':Array GenState}{t':Nat}{d':Drawn}{ch:List Addr}(I:Inv X pins σ H s)
  (hch:∀b∈ch,(b∈X.ex\/X.s₀.heap.objs.size<=b)/\b≠X.env.locals/\(∀x c,X.env.cells.lookup x=some c->c≠b)/\∀p∈X.pn++pins,p.1≠b)
  (keep:∀b o,b≠X.env.locals->b∉X.fs->b∉ch->s.heap.get? b=some o->H b=none->h'.get? b=some o)
  (slot:∀b o,b≠X.env.locals->b∈X.fs->b∉ch->s.heap.get? b=some o->H b=none->∃sl,h'.get? b=some { o with slots:=sl }) (free:∀b o,b∉ch->s.heap.get? b=some o->H b=none->H' b=none)
  (there:∀b o,b∉ch->s.heap.get? b=some o->∃o',h'.get? b=some o')
  (tups:∀b xs,H b=some (.tup xs)->H' b=some (.tup xs)) (lH:∀b o u,H b=some (.d6 o u)->H' b=some (.d6 o u)) (mQ:∀b ps,H b=some (.qQ ps)->∃more,H' b=some (.qQ (ps++more)))
  (ns:∀m,s.heap.Ns X.env.locals m->h'.Ns X.env.locals m) (hok:eX X.prog X.w H' h') (hg:AllBare g'):
  Inv X pins σ H' { s with heap:=h',gens:=g',drawn:=d',toks:=t' }:=by
 have Az:∀b o,X.s₀.heap.get? b=some o->b≠X.env.locals:=λb o e=>ne_of_lt (lt_of_lt_of_le (Heap.lt_size e) I.ok.above)
 have vC:∀b o,X.s₀.heap.get? b=some o->b∉X.ex->b∉ch:=λb o e hx hb=>by
  rcases(hch b hb).1 with z|z
  ·exact hx z
  ·exact absurd (lt_of_lt_of_le (Heap.lt_size e) z) (lt_irrefl _)
 have cellK:∀x c,X.env.cells.lookup x=some c->∀v,s.heap.IsCell c v->h'.IsCell c v:=λx c e v ⟨o,ho,hd⟩=>by
  have xY:c∉ch:=λz=>(hch c z).2.2.1 x c e rfl
  by_cases hc:c∈X.fs
  ·obtain⟨sl,q⟩:=slot c o (I.u0 x c e) hc xY ho (I.mX x c e)
   exact⟨_,q,hd⟩
  ·exact⟨o,keep c o (I.u0 x c e) hc xY ho (I.mX x c e),hd⟩
 refine⟨I.ok,I.os,hg,⟨λb o e n hb hx=>?_,λb o e n hb hx=>?_,λb o e n hx=>?_,λb o e hx=>?_,λb xs e=>tups b xs (I.base.tups b xs e),λb o xs e=>lH b o xs (I.base.lH b o xs e),λb ps e=>?_⟩,?_,λx c e=>?_,?_,λx c e=>?_,λp hp=>?_,hok,I.len⟩
 ·exact keep b o (Az b o e) hb (vC b o e hx) (I.base.keep b o e n hb hx) (I.base.free b o e n hx)
 ·obtain⟨sl,e1⟩:=I.base.slot b o e n hb hx
  obtain⟨sl',e2⟩:=slot b _ (Az b o e) hb (vC b o e hx) e1 (I.base.free b o e n hx);exact⟨sl',e2⟩
 ·obtain⟨o',e1⟩:=I.base.there b o e hx
  exact free b o' (vC b o e hx) e1 (I.base.free b o e n hx)
 ·obtain⟨o',e1⟩:=I.base.there b o e hx
  exact there b o' (vC b o e hx) e1
 ·obtain⟨m1,e1⟩:=I.base.mQ b ps e
  obtain⟨m2,e2⟩:=mQ b _ e1;exact⟨m1++m2,by rw[e2,Array.append_assoc]⟩
 ·obtain⟨m,hn,hl⟩:=I.loc
  refine⟨m,ns m hn,λi x v e1 e2 e3=>?_⟩;obtain⟨u,r,l⟩:=hl i x v e1 e2 e3;refine⟨u,r,?_⟩;rcases l with l|⟨k,c,e,z⟩
  ·exact .inl l
  ·exact .inr ⟨k,c,e,cellK x c e _ z⟩
 ·obtain⟨v,z⟩:=I.cell x c e
  exact⟨v,cellK x c e v z⟩
 ·obtain⟨m,⟨o,_,_,ho,_⟩,_⟩:=I.loc
  exact free _ o (λz=>(hch _ z).2.1 rfl) ho I.free
 ·obtain⟨v,o,ho,hd⟩:=I.cell x c e
  exact free c o (λz=>(hch c z).2.2.1 x c e rfl) ho (I.mX x c e)
 ·obtain⟨e,n,ne,nf,d⟩:=I.pin p hp
  have xY:p.1∉ch:=λz=>(hch p.1 z).2.2.2 p hp rfl
  exact⟨keep p.1 p.2 ne nf xY e n,free p.1 p.2 xY e n,ne,nf,d⟩
theorem Inv.un{t':Nat}(I:Inv X pins σ H s)(u:Un X.fs [] H H' s.heap h')(hok:eX X.prog X.w H' h'):Inv X pins σ H' { s with heap:=h',toks:=t' }:=by
 obtain⟨m,⟨o,es,ep,ho,r⟩,_⟩:=id I.loc;obtain⟨sl,hL⟩:=u.any ho I.free (by simp)
 exact I.step (g':=s.gens) (d':=s.drawn) (ch:=[]) (λ_ z=>nomatch z) (λb o _ hb _ e n=>u.keep b o e n hb (by simp)) (λb o _ hb _ e n=>u.slot b o e n hb (by simp)) (λb o _ e n=>u.free b o e n (by simp)) (λb o _ e=>u.there b o e (by simp)) u.tups u.lH u.mQ (λm' hm=>by
  obtain⟨o',es',ep',ho',r'⟩:=hm;rw[ho] at ho';cases ho'
  exact⟨_,es',ep',hL,r'⟩) hok I.bare
theorem Inv.call{g':Array GenState}{t':Nat}{d':Drawn}{ch:List Addr}(I:Inv X pins σ H s)(u:Un (frs X.stack) ch H H' s.heap h')(hok:eX X.prog X.w H' h')(hg:AllBare g')
  (hch:∀b∈ch,(b∈X.ex\/X.s₀.heap.objs.size<=b)/\b≠X.env.locals/\(∀x c,X.env.cells.lookup x=some c->c≠b)/\∀p∈X.pn++pins,p.1≠b):
  Inv X pins σ H' { s with heap:=h',gens:=g',drawn:=d',toks:=t' }:=by
 obtain⟨m,⟨o,es,ep,ho,r⟩,_⟩:=id I.loc;obtain⟨sl,hL⟩:=u.any ho I.free λz=>(hch _ z).2.1 rfl
 exact I.step (ch:=ch) hch (λb o hL hb hc e n=>u.keep b o e n (λz=>(List.mem_cons.mp (I.xX b z)).elim hL hb) hc) (λb o _ _ hc e n=>u.any e n hc) (λb o hc e n=>u.free b o e n hc) (λb o hc e=>u.there b o e hc) u.tups u.lH u.mQ (λm' hm=>by
  obtain⟨o',es',ep',ho',r'⟩:=hm;rw[ho] at ho';cases ho'
  exact⟨_,es',ep',hL,r'⟩) hok hg
theorem Inv.turned{t':Nat}{it:Addr}(I:Inv X pins σ H s)(k:∀b o,b≠it->s.heap.get? b=some o->h'.get? b=some o)(hn:H it=none)(hL:it≠X.env.locals)
  (h1:it∈X.ex\/X.s₀.heap.objs.size<=it) (h2:∀x c,X.env.cells.lookup x=some c->c≠it) (h3:∀p∈X.pn++pins,p.1≠it):Inv X pins σ H { s with heap:=h',toks:=t' }:=by
 have QB:∀b u,H b=some u->b≠it:=λb u e z=>by rw[z,hn] at e;cases e
 refine I.step (g':=s.gens) (d':=s.drawn) (ch:=[it]) (λb hb=>?_) (λb o _ _ hc e _=>k b o (λz=>hc (by simp[z])) e) (λb o _ _ hc e _=>⟨o.slots,k b o (λz=>hc (by simp[z])) e⟩) (λ_ _ _ _ n=>n)
  (λb o hc e=>⟨o,k b o (λz=>hc (by simp[z])) e⟩) (λ_ _ e=>e) (λ_ _ _ e=>e) (λb ps e=>⟨#[],by rw[e];simp⟩) (λm hm=>?_) (λb u e=>?_) I.bare
 ·have e:b=it:=by simpa using hb
  subst e;exact⟨h1,hL,h2,h3⟩
 ·obtain⟨o,es,ep,ho,r⟩:=hm
  exact⟨o,es,ep,k _ o (Ne.symm hL) ho,r⟩
 ·refine(I.hok b u e).stay (λc v hc q=>k c v ?_ q) (λ_ q=>q) λ_ _ q=>q
  rcases hc with z|z
  ·rw[z];exact QB b u e
  ·exact QB c _ z
theorem Inv.tok(I:Inv X pins σ H s)(t:Nat):Inv X pins σ H { s with toks:=t }:=I.un (h':=s.heap) (t':=t) Un.refl I.hok
theorem Inv.kept{t':Nat}(I:Inv X pins σ H s)(k:∀b u,s.heap.get? b=some u->h'.get? b=some u):Inv X pins σ H { s with heap:=h',toks:=t' }:=I.un (Un.kept k) (I.hok.kept k)
theorem Inv.laid{a:Addr}{o:HO}{t':Nat}(I:Inv X pins σ H s)(k:∀b u,s.heap.get? b=some u->h'.get? b=some u)(hp:s.heap.objs.size<=a)(new:gB X.prog X.w (upd H a o) h' a o):
  Inv X pins σ (upd H a o) { s with heap:=h',toks:=t' }:=I.un (Un.laid k hp (I.hok.fresh hp)) (I.hok.laid k hp new)
theorem Inv.write{x e:Addr}{o:HO}{t':Nat}(I:Inv X pins σ H s)(mu:xU (H x))(he:e=x\/H e=some (.own x))(k:∀b u,b≠e->s.heap.get? b=some u->h'.get? b=some u)(heo:∃u,h'.get? e=some u)
  (new:gB X.prog X.w (upd H x o) h' x o):Inv X pins σ (upd H x o) { s with heap:=h',toks:=t' }:=I.un (Un.write mu he k heo) (I.hok.write mu he k heo new)
theorem Inv.weak{σ':List (Option V)}(I:Inv X pins σ H s)(hl:σ'.length=σ.length)(w:∀(i:Nat) v,σ'[i]? = some (some v)->σ[i]? = some (some v)):Inv X pins σ' H s:=
 ⟨I.ok,I.os,I.bare,I.base,let ⟨m,hn,hl'⟩:=I.loc;⟨m,hn,λi x v e1 e2 e3=>hl' i x v e1 (w i v e2) e3⟩,I.cell,I.free,I.mX,I.pin,I.hok,hl.trans I.len⟩
theorem Inv.QD{QF:c7}(I:Inv X pins σ H s)(h:∀p∈QF,s.heap.get? p.1=some p.2/\H p.1=none/\p.1≠X.env.locals/\p.1∉X.fs/\∀v,p.2.data≠.cell v):Inv X QF σ H s:=
 ⟨I.ok,I.os,I.bare,I.base,I.loc,I.cell,I.free,I.mX,λp hp=>(List.mem_append.mp hp).elim (λz=>I.pin p (mem_append_left _ z)) (h p),I.hok,I.len⟩
theorem QG{N:List Str}(hN:N.Nodup){i j:Nat}{x:Str}(a:N[i]? = some x)(b:N[j]? = some x):i=j:=by
 obtain⟨h1,e1⟩:=List.getElem?_eq_some_iff.mp a;obtain⟨h2,e2⟩:=List.getElem?_eq_some_iff.mp b;exact(List.getElem_inj hN).mp (e1.trans e2.symm)
theorem QH{M:Model}{A:Around}{E:cJ}{i:Nat}{x:Str}{v:V}{u:Value}{Q:Unit->Shared->Prop}(I:Inv X pins σ H s)(hN:X.N.Nodup)(hi:X.N[i]? = some x)(hx:Loc X.env.scope x)(r:RelV v u)
  (h:∀s',Inv X pins (σ.set i (some v)) H s'->(∃a,Heap.SameBut a s.heap s'.heap/\(a=X.env.locals\/X.env.cells.lookup x=some a))->Q () s') (hf:X.fn x=true\/X.env.scope.names.lookup x=some .local:=by first|exact .inl rfl|exact .inr rfl|assumption):wpAny M A (storeName X.env x u) Q E s:=by
 obtain⟨m,hn,hl⟩:=id I.loc;have hcls:(X.env.scope.kind==.class||(X.env.scope.kind==.module&&X.env.locals != X.env.globals))=false:=by rw[I.ok.kind];rfl
 have QJ:i<σ.length:=by rw[I.len];exact(List.getElem?_eq_some_iff.mp hi).1
 have u0:=I.u0;have tracked:∀ {a:Addr} {h':Heap},(∃o,s.heap.get? a=some o/\H a=none)->Heap.SameBut a s.heap h'->eX X.prog X.w H h':=λ{a h'} ha hs b ob e=>by
  obtain⟨_,_,hfree⟩:=ha;refine(I.hok b ob e).stay (λc w' hc q=>(hs.2 c ?_).trans q) (λ_ q=>q) λ_ _ q=>q
  rintro rfl
  rcases hc with rfl|hc
  ·rw[hfree] at e;cases e
  ·rw[hfree] at hc;cases hc
 rcases hx with hk|hk
 ·refine wpAny_storeName_local hk hn (λh' hn' hs=>?_) hcls
  obtain⟨oL,_,_,hoL,_⟩:=id hn;refine h _ ⟨I.ok,I.os,I.bare,⟨λb o e n hb hx=>?_,λb o e n hb hx=>?_,I.base.free,λb o e hx=>?_,I.base.tups,I.base.lH,I.base.mQ⟩,⟨_,hn',λj y v' e1 e2 e3=>?_⟩,λy c e=>?_,I.free,I.mX,λp hp=>?_,tracked ⟨oL,hoL,I.free⟩ hs,by simpa using I.len⟩ ⟨_,hs,.inl rfl⟩
  ·exact(hs.2 b (ne_of_lt (lt_of_lt_of_le (Heap.lt_size e) I.ok.above))).trans (I.base.keep b o e n hb hx)
  ·obtain⟨sl,e1⟩:=I.base.slot b o e n hb hx
   exact⟨sl,(hs.2 b (ne_of_lt (lt_of_lt_of_le (Heap.lt_size e) I.ok.above))).trans e1⟩
  ·obtain⟨o',e1⟩:=I.base.there b o e hx
   exact⟨o',(hs.2 b (ne_of_lt (lt_of_lt_of_le (Heap.lt_size e) I.ok.above))).trans e1⟩
  ·by_cases hj:j=i
   ·subst hj
    rw[hi] at e1;cases e1
    rw[List.getElem?_set_self QJ] at e2
    cases e2;exact⟨u,r,.inl ⟨hk,by simp⟩⟩
   ·rw[List.getElem?_set_ne (Ne.symm hj)] at e2
    obtain⟨u',r',q⟩:=hl j y v' e1 e2 e3;refine⟨u',r',?_⟩;rcases q with⟨k,e⟩|⟨k,c,e,z⟩
    ·refine .inl ⟨k,?_⟩
     have:y≠x:=λe=>hj (QG hN e1 (e▸hi))
     simp[this,e]
    ·exact .inr ⟨k,c,e,z.sameBut hs (u0 y c e)⟩
  ·obtain⟨w',z⟩:=I.cell y c e
   exact⟨w',z.sameBut hs (u0 y c e)⟩
  ·obtain⟨e,n,ne,nf,d⟩:=I.pin p hp
   exact⟨(hs.2 p.1 ne).trans e,n,ne,nf,d⟩
 ·have hfn:X.fn x=true:=by
   rcases hf with z|z
   ·exact z
   ·rw[z] at hk;cases hk
  obtain⟨c,hc⟩:=I.ok.has x (.inl hk);obtain⟨w',z⟩:=I.cell x c hc;refine wpAny_storeName_cell I.ok.kind hk hc z (λh' hc' hs=>?_);obtain⟨oc,hoc,eC⟩:=id z;refine h { s with heap:=h' } ⟨I.ok,I.os,I.bare,⟨λb o e n hb hx=>?_,λb o e n hb hx=>?_,I.base.free,λb o e hx=>?_,I.base.tups,I.base.lH,I.base.mQ⟩,⟨m,hn.sameBut hs (Ne.symm (u0 x c hc)),λj y v' e1 e2 e3=>?_⟩,λy c' e=>?_,I.free,I.mX,λp hp=>?_,tracked ⟨oc,hoc,I.mX x c hc⟩ hs,by simpa using I.len⟩ ⟨c,hs,.inr hc⟩
  ·exact(hs.2 b (ne_of_lt (lt_of_lt_of_le (Heap.lt_size e) (I.ok.cab x c hfn hc)))).trans (I.base.keep b o e n hb hx)
  ·obtain⟨sl,e1⟩:=I.base.slot b o e n hb hx
   exact⟨sl,(hs.2 b (ne_of_lt (lt_of_lt_of_le (Heap.lt_size e) (I.ok.cab x c hfn hc)))).trans e1⟩
  ·obtain⟨o',e1⟩:=I.base.there b o e hx
   exact⟨o',(hs.2 b (ne_of_lt (lt_of_lt_of_le (Heap.lt_size e) (I.ok.cab x c hfn hc)))).trans e1⟩
  ·by_cases hj:j=i
   ·subst hj
    rw[hi] at e1;cases e1
    rw[List.getElem?_set_self QJ] at e2
    cases e2;exact⟨u,r,.inr ⟨.inl hk,c,hc,hc'⟩⟩
   ·rw[List.getElem?_set_ne (Ne.symm hj)] at e2
    obtain⟨u',r',q⟩:=hl j y v' e1 e2 e3;refine⟨u',r',?_⟩;rcases q with q|⟨k,c',e,z'⟩
    ·exact .inl q
    ·refine .inr ⟨k,c',e,z'.sameBut hs ?_⟩
     rintro rfl
     exact hj (QG hN e1 (I.ok.inj _ _ _ e hc▸hi))
  ·by_cases hcc:c'=c
   ·subst hcc;exact⟨_,hc'⟩
   ·obtain⟨w2,z2⟩:=I.cell y c' e
    exact⟨w2,z2.sameBut hs hcc⟩
  ·obtain⟨e,n,ne,nf,d⟩:=I.pin p hp
   refine⟨(hs.2 p.1 ?_).trans e,n,ne,nf,d⟩;intro q;rw[q,hoc] at e
   have q':oc=p.2:=Option.some.inj e;exact d w' (by rw[<-q'];exact eC)
theorem Ea{M:Model}{A:Around}{E:cJ}{i:Nat}{x:Str}{v:V}{u:Value}{Q:Unit->Shared->Prop}(I:Inv X pins σ H s)(hN:X.N.Nodup)(hi:X.N[i]? = some x)(hx:Loc X.env.scope x)(r:RelV v u)
  (h:∀s',Inv X pins (σ.set i (some v)) H s'->Q () s') (hf:X.fn x=true\/X.env.scope.names.lookup x=some .local:=by first|exact .inl rfl|exact .inr rfl|assumption):wpAny M A (storeName X.env x u) Q E s:=
 QH I hN hi hx r (λs' I' _=>h s' I') hf
theorem Inv.call'{s':Shared}{ch:List Addr}(I:Inv X pins σ H s)(ho:s'.os=s.os)(u:Un (frs X.stack) ch H H' s.heap s'.heap)(hok:eX X.prog X.w H' s'.heap)(hg:AllBare s'.gens)
  (hch:∀b∈ch,(b∈X.ex\/X.s₀.heap.objs.size<=b)/\b≠X.env.locals/\(∀x c,X.env.cells.lookup x=some c->c≠b)/\∀p∈X.pn++pins,p.1≠b):Inv X pins σ H' s':=by
 obtain⟨h',g',d',t',o'⟩:=s';have e:o'=s.os:=ho;subst e;exact I.call (g':=g') (t':=t') (d':=d') u hok hg hch
end
abbrev XK:=Value->Option Addr->Hp->Prop
abbrev St:=List (Option V)
abbrev VK:=V->Hp->Prop
abbrev TE:=St->Hp->VK->Prop
abbrev TT:=St->Hp->(Bool->Hp->Prop)->Prop
abbrev TA:=St->Hp->(List V->Hp->Prop)->Prop
structure Ends where
 nx:St->Hp->Prop
 rt:VK
 bk:St->Hp->Prop:=λ_ _=>False
 ct:St->Hp->Prop:=λ_ _=>False
abbrev TS:=Ends->St->Hp->Prop
inductive EP(X:Cx)(pins:c7)(σ:St)(Q:VK)(u:Value)(s':Shared):Prop
 |mk (v:V) (H':Hp) (i:Inv X pins σ H' s') (r:RelV v u) (q:Q v H'):EP X pins σ Q u s'
def TP(X:Cx)(pins:c7)(σ:St)(Q:Bool->Hp->Prop)(b:Bool)(s':Shared):Prop:=∃H',Inv X pins σ H' s'/\Q b H'
def AP(X:Cx)(pins:c7)(σ:St)(Q:List V->Hp->Prop)(us:List Value)(s':Shared):Prop:=∃vs H',Inv X pins σ H' s'/\Vals vs us/\Q vs H'
def SP(X:Cx)(pins:c7)(D:Ends)(f:Flow)(s':Shared):Prop:=
 match f with
 |.next=>∃σ' H',Inv X pins σ' H' s'/\D.nx σ' H'
 |.brk=>∃σ' H',Inv X pins σ' H' s'/\D.bk σ' H'
 |.cont=>∃σ' H',Inv X pins σ' H' s'/\D.ct σ' H'
 |.ret u=>∃v σ' H',Inv X pins σ' H' s'/\RelV v u/\D.rt v H'
def PE(X:Cx)(e:Expr)(t:TE):Prop:=
 ∀(pins:c7) (s:Shared) (σ:St) (H:Hp) (Q:VK),Inv X pins σ H s->t σ H Q->wpAny (model X.prog X.w) X.A (eval e X.env) (EP X pins σ Q) X.xe s
def PT(X:Cx)(e:Expr)(t:TT):Prop:=
 ∀(pins:c7) (s:Shared) (σ:St) (H:Hp) (Q:Bool->Hp->Prop),Inv X pins σ H s->t σ H Q->wpAny (model X.prog X.w) X.A (isTrue e X.env (eval e X.env)) (TP X pins σ Q) X.xe s
def PW(X:Cx)(e:Expr)(t:TT):Prop:=
 ∀(whole:Sem Value) (pins:c7) (s:Shared) (σ:St) (H:Hp) (Q:Bool->Hp->Prop),Inv X pins σ H s->t σ H Q->wpAny (model X.prog X.w) X.A (isTrue e X.env whole) (TP X pins σ Q) X.xe s
theorem PW.pt{X:Cx}{e:Expr}{t:TT}(h:PW X e t):PT X e t:=h _
def PA(X:Cx)(es:List Expr)(t:TA):Prop:=
 ∀(pos:Pos) (pins:c7) (s:Shared) (σ:St) (H:Hp) (Q:List V->Hp->Prop),Inv X pins σ H s->t σ H Q->wpAny (model X.prog X.w) X.A (spliced (backTo pos (starEach es X.env))) (AP X pins σ Q) X.xe s
def PS(X:Cx)(st:Stmt)(t:TS):Prop:=
 ∀(pins:c7) (s:Shared) (σ:St) (H:Hp) (D:Ends),Inv X pins σ H s->t D σ H->wpAny (model X.prog X.w) X.A (exec st X.env) (SP X pins D) X.xe s
def jk(X:Cx)(st:List Stmt)(t:TS):Prop:=
 ∀(pins:c7) (s:Shared) (σ:St) (H:Hp) (D:Ends),Inv X pins σ H s->t D σ H->wpAny (model X.prog X.w) X.A (execs st X.env) (SP X pins D) X.xe s
theorem aX{α:Type}{t:Sem α}{Q Q':α->Shared->Prop}{M:Model}{A:Around}{E:cJ}{s:Shared}(h:wpAny M A t Q E s)(hQ:∀a s,Q a s->Q' a s):wpAny M A t Q' E s:=wpAny_mono h hQ λ_ _ x=>x
section
variable {X:Cx}
theorem bin{a b:Expr}{ta tb:TE}(ha:PE X a ta)(hb:PE X b tb){pins:c7}{s:Shared}{σ:St}{H:Hp}{R:V->V->Hp->Prop}(I:Inv X pins σ H s)(h:ta σ H λx H1=>tb σ H1 λy H2=>R x y H2)
  {α:Type} {Q:α->Shared->Prop} {f:Value->Value->Sem α}
  (hf:∀v u s2 x y H2,Inv X pins σ H2 s2->RelV x v->RelV y u->R x y H2->wpAny (model X.prog X.w) X.A (f v u) Q X.xe s2):
  wpAny (model X.prog X.w) X.A (eval a X.env) (λv s₁=>wpAny (model X.prog X.w) X.A (eval b X.env) (λu s₂=>wpAny (model X.prog X.w) X.A (f v u) Q X.xe s₂) X.xe s₁) X.xe s:=by
 refine aX (ha pins s σ H _ I h) λv s1 ⟨x,H1,I1,r1,q1⟩=>?_
 refine aX (hb pins s1 σ H1 _ I1 q1) λu s2 ⟨y,H2,I2,r2,q2⟩=>?_
 exact hf v u s2 x y H2 I2 r1 r2 q2
inductive jB(i:Nat)(σ:St)(H:Hp)(Q:VK):Prop
 |mk (v:V) (h:σ[i]? = some (some v)) (q:Q v H):jB i σ H Q
def tC(v:V):TE:=λ_ H Q=>Q v H
theorem eI{i:Nat}{x:Str}{pos:Pos}(hN:X.N[i]? = some x)(hv:xV X.env.scope x)(hd:(x==("__debug__":Str))=false:=by decide)(hcd:(x==("__classdict__":Str))=false:=by decide):PE X (.Name x pos) (jB i):=by
 intro pins s σ H Q I h;obtain⟨v,e,h⟩:=h;obtain⟨m,hn,hl⟩:=I.loc;obtain⟨u,r,l⟩:=hl i x v hN e hv;have fin:EP X pins σ Q u s:=⟨v,H,I,r,h⟩;rcases l with⟨hk,hm⟩|⟨hk,c,hc,hcell⟩
 ·exact wpAny_Name (wpAny_loadName_local I.ok.kind hk hn hm fin) hd
 ·rcases hk with hk|hk
  ·exact wpAny_Name (wpAny_loadName_cell I.ok.kind hk hc hcell fin) hd
  ·exact wpAny_Name (wpAny_loadName_free I.ok.kind hk hc hcell fin hcd) hd
theorem eJ{i j pos}:PE X (.Constant (.int i) j pos) (tC (.int i)):=λ_ _ _ H _ I h=>wpAny_Constant_int ⟨.int i,H,I.tok _,⟨_,rfl⟩,h⟩
theorem eK{b j pos}:PE X (.Constant (.bool b) j pos) (tC (.bl b)):=λ_ _ _ H _ I h=>Constant_bool ⟨.bl b,H,I,rfl,h⟩
theorem eM{j pos}:PE X (.Constant .none j pos) (tC .non):=λ_ _ _ H _ I h=>Constant_none ⟨.non,H,I,rfl,h⟩
theorem eP{x j pos}:PE X (.Constant (.str x) j pos) (tC (.str x)):=λ_ _ _ H _ I h=>Calls.Constant_str ⟨.str x,H,I.tok _,⟨_,rfl⟩,h⟩
def Gl(X:Cx)(x:Str):Prop:=X.env.kindOf x=some .globalImplicit
theorem xZ{E:cJ}{pins:c7}{s:Shared}{σ:St}{H:Hp}{x:Str}{u:Value}{pos:Pos}{Q:cJ}(I:Inv X pins σ H s)(hg:Gl X x)(hm:X.mg x=some u)(h:Q u s)
  (hd:(x==("__debug__":Str))=false:=by decide):wpAny (model X.prog X.w) X.A (eval (.Name x pos) X.env) Q E s:=
 Calls.Name_function_global I.ok.kind hg (Calls.loadGlobal_global (by rw[I.ok.glob];exact I.mod.glob.keeps I.bk) hm h) hd
theorem y4{E:cJ}{pins:c7}{s:Shared}{σ:St}{H:Hp}{x:Str}{u:Value}{pos:Pos}{Q:cJ}(I:Inv X pins σ H s)(hg:Gl X x)(hm:X.mg x=none)(hv:bootBuiltins x=some u)(h:Q u s)
  (hn:x≠"__name__":=by decide) (hd:(x==("__debug__":Str))=false:=by decide):wpAny (model X.prog X.w) X.A (eval (.Name x pos) X.env) Q E s:=by
 obtain⟨mb,h1,h2⟩:=I.mod.blt;exact Calls.Name_function_global I.ok.kind hg (Calls.loadGlobal_builtin (by rw[I.ok.glob];exact I.mod.glob.keeps I.bk) hm (by rw[I.ok.blt];exact h1.keeps I.bk) ((h2 x hn).trans hv) h) hd
theorem eQ{x:Str}{v:V}{u:Value}{pos:Pos}(hg:Gl X x)(hm:X.mg x=some u)(r:RelV v u)(hd:(x==("__debug__":Str))=false:=by decide):PE X (.Name x pos) (tC v):=
 λ_ _ _ H _ I h=>xZ I hg hm ⟨v,H,I,r,h⟩ hd
variable {a b:Expr}{ta tb:TE}{pos:Pos}
def PC(X:Cx)(op:CmpOp)(a b:Expr)(t:TE):Prop:=
 ∀(pins:c7) (s:Shared) (σ:St) (H:Hp) (Q:VK),Inv X pins σ H s->t σ H Q->
  wpAny (model X.prog X.w) X.A (eval a X.env) (λv s₁=>wpAny (model X.prog X.w) X.A (eval b X.env) (λu s₂=>wpAny (model X.prog X.w) X.A (compareOp op v u) (EP X pins σ Q) X.xe s₂) X.xe s₁) X.xe s
theorem eR(b:Expr){op:CmpOp}(h:op≠.In)(h2:op≠.NotIn):behindInMarks op b=false:=by
 have e1:(op==CmpOp.In)=false:=by cases op<;>first|rfl|exact absurd rfl h
 have e2:(op==CmpOp.NotIn)=false:=by cases op<;>first|rfl|exact absurd rfl h2
 cases b<;>simp[behindInMarks,e1,e2]
def eT(ta:TE):TE:=λσ H Q=>ta σ H λx H1=>Q (.bl (decide (x=.non))) H1
def eW(ta:TE):TE:=λσ H Q=>ta σ H λx H1=>Q (.bl (!decide (x=.non))) H1
theorem RelV.QK{x:V}{v:Value}(r:RelV x v):(v==Value.none)=decide (x=.non):=by
 cases x with
 |non=>cases r;rfl
 |bl _=>cases r;rfl
 |int _=>obtain⟨t,rfl⟩:=r;rfl
 |str _=>obtain⟨t,rfl⟩:=r;rfl
 |jA _=>obtain⟨t,rfl⟩:=r;rfl
 |flt _=>obtain⟨t,rfl⟩:=r;rfl
 |ref _=>cases r;rfl
 |ty _=>cases r;rfl
theorem fb{j pos'}(ha:PE X a ta):PC X .Is a (.Constant .none j pos') (eT ta):=by
 intro pins s σ H Q I h;refine aX (ha pins s σ H _ I h) λv s1 ⟨x,H1,I1,r1,q1⟩=>?_
 exact Constant_none (is_none_gen ⟨.bl _,H1,I1,by rw[r1.QK];rfl,q1⟩)
theorem fe{j pos'}(ha:PE X a ta):PC X .IsNot a (.Constant .none j pos') (eW ta):=by
 intro pins s σ H Q I h;refine aX (ha pins s σ H _ I h) λv s1 ⟨x,H1,I1,r1,q1⟩=>?_
 exact Constant_none (isnot_none_gen ⟨.bl _,H1,I1,by rw[r1.QK];rfl,q1⟩)
inductive Eb(Q:Bool->Hp->Prop)(x:V)(H:Hp):Prop
 |mk (c:Bool) (e:x=.bl c) (q:Q c H):Eb Q x H
def tB(t:TE):TT:=λσ H Q=>t σ H (Eb Q)
theorem fh{op:CmpOp}{t:TE}(h:PC X op a b t)(h1:behindInMarks op b=false:=by first|exact eR _ (by decide) (by decide)|rfl):PT X (.Compare a [op] [b] pos) (tB t):=by
 intro pins s σ H Q I hw;refine wpAny_isTrue_Compare1 (aX (h pins s σ H _ I hw) λv s1 h1=>aX h1 λu s2 h2=>aX h2 λc s3 ⟨x,H1,I1,r1,q1⟩=>?_) h1;obtain⟨d,rfl,q⟩:=q1;cases r1;exact wpAny_truthy_bool ⟨H1,I1,q⟩
theorem fi{e:Expr}{t:TE}(h:PE X e t)(he:∀whole,isTrue e X.env whole=(do let v <-whole;standAt e.pos;holding [v] (truthy v)):=by intro _;rfl):PT X e (tB t):=by
 intro pins s σ H Q I hw;refine isTrue_plain (aX (h pins s σ H _ I hw) λv s1 ⟨x,H1,I1,r1,q1⟩=>?_) (he _);obtain⟨d,rfl,q⟩:=q1;cases r1;exact wpAny_truthy_bool ⟨H1,I1,q⟩
variable {tA QL:TT}{rest:List Expr}
def fk(t u:TT):TT:=λσ H Q=>t σ H λc H1=>if c=true then Q true H1 else u σ H1 Q
def fq(t:TT):TT:=λσ H Q=>t σ H λc H1=>Q (!c) H1
theorem ft(ha:PT X a tA):PW X (.BoolOp .Or [a] pos) tA:=by
 intro wh pins s σ H Q I h;refine isTrue_or (aX (ha pins s σ H Q I h) λc s1 e=>?_);cases c with
 |false=>exact isTrue_or_nil e
 |true=>exact e
theorem fz(ha:PT X a tA)(hb:PW X (.BoolOp .Or (b::rest) pos) QL):PW X (.BoolOp .Or (a::b::rest) pos) (fk tA QL):=by
 intro wh pins s σ H Q I h;refine isTrue_or (aX (ha pins s σ H _ I h) λc s1 ⟨H1,I1,q1⟩=>?_);cases c with
 |true=>exact⟨H1,I1,q1⟩
 |false=>exact hb wh pins s1 σ H1 Q I1 q1
theorem gi(ha:PT X a tA):PT X (.UnaryOp .Not a pos) (fq tA):=by
 intro pins s σ H Q I h;exact isTrue_not (ha pins s σ H (λc H1=>Q (!c) H1) I h)
def gl(ta tb:TE):TE:=λσ H Q=>ta σ H λx H1=>∃c,x=.bl c/\if c=true then Q (.bl true) H1 else tb σ H1 Q
theorem gm{op}{t:TE}(h:PE X a t):PE X (.BoolOp op [a] pos) t:=λpins s σ H Q I hw=>BoolOp_one (h pins s σ H Q I hw)
theorem gp(ha:PE X a ta)(hb:PE X (.BoolOp .Or (b::rest) pos) tb):PE X (.BoolOp .Or (a::b::rest) pos) (gl ta tb):=by
 intro pins s σ H Q I h;refine BoolOp_or (aX (ha pins s σ H _ I h) λv s1 ⟨x,H1,I1,r1,q1⟩=>?_);obtain⟨c,rfl,q1⟩:=q1;cases r1;refine wpAny_truthy_bool ?_;cases c with
 |false=>exact hb pins s1 σ H1 Q I1 q1
 |true=>exact⟨.bl true,H1,I1,rfl,q1⟩
def gs(t:TT)(ta tb:TE):TE:=λσ H Q=>t σ H λc H1=>if c=true then ta σ H1 Q else tb σ H1 Q
theorem gu{c:Expr}(hc:PT X c tA)(ha:PE X a ta)(hb:PE X b tb):PE X (.IfExp c a b pos) (gs tA ta tb):=by
 intro pins s σ H Q I h;refine wpAny_IfExp (aX (hc pins s σ H _ I h) λd s1 ⟨H1,I1,q1⟩=>?_);cases d with
 |true=>exact ha pins s1 σ H1 Q I1 q1
 |false=>exact hb pins s1 σ H1 Q I1 q1
end
def aG(K:Frag)(H:Hp)(a:Addr)(xs:List V):Prop:=
 Rd H a (.lst xs)\/
  ∃(o:Obj) (its:Array Value) (n:Nat),K.lookup a=some o/\o.cls=.type "list"/\o.dict=none/\o.data=.seq its n/\its.size<=sizeLine/\Vals xs its.toList
def a9(K:Frag)(H:Hp)(a:Addr)(xs:List V):Prop:=
 Rd H a (.tup xs)\/
  ∃(o:Obj) (its:Array Value) (n:Nat),K.lookup a=some o/\o.cls=.type "tuple"/\o.data=.seq its n/\its.size<=sizeLine/\Vals xs its.toList
noncomputable def gv:Value->Option V
 |.none=>some .non
 |.bool b=>some (.bl b)
 |.int i _=>some (.int i)
 |.str x _=>some (.str x)
 |.bytes b _=>some (.jA b)
 |.float b _=>some (.flt b)
 |.ref a=>some (.ref a)
 |.type n=>some (.ty n)
 |_=>none
theorem RelV.abs{x:V}{u:Value}(r:RelV x u):gv u=some x:=by
 cases x with
 |non=>cases r;rfl
 |bl _=>cases r;rfl
 |int _=>obtain⟨t,rfl⟩:=r;rfl
 |str _=>obtain⟨t,rfl⟩:=r;rfl
 |jA _=>obtain⟨t,rfl⟩:=r;rfl
 |flt _=>obtain⟨t,rfl⟩:=r;rfl
 |ref _=>cases r;rfl
 |ty _=>cases r;rfl
theorem RelV.inj{x y:V}{u:Value}(r:RelV x u)(q:RelV y u):x=y:=Option.some.inj (r.abs.symm.trans q.abs)
theorem Vals.inj:∀ {xs ys:List V} {us:List Value},Vals xs us->Vals ys us->xs=ys
 |_,_,_,.nil,.nil=>rfl
 |_,_,_,.cons r t,.cons r' t'=>by rw[r.inj r',Vals.inj t t']
section
variable {X:Cx}{pins:c7}{σ:St}{H:Hp}{s:Shared}{a:Addr}{xs ys:List V}
theorem aG.of{K:Frag}(h:H a=some (.lst xs)):aG K H a xs:=.inl (.inl h)
theorem a9.of{K:Frag}(h:H a=some (.tup xs)):a9 K H a xs:=.inl (.inl h)
theorem Inv.list(I:Inv X pins σ H s)(h:aG X.K H a xs):∃its:List Value,Vals xs its/\PlainL s.heap a its.toArray/\xs.length<=sizeLine:=by
 rcases h with h|⟨o,its,n,hk,hc,hd,hs,hz,r⟩
 ·obtain⟨z,its,n,r,e⟩:=h.ok I.hok
  exact⟨its,r,⟨_,n,e,rfl,rfl,rfl⟩,z⟩
 ·refine⟨its.toList,r,⟨o,n,I.jW a o hk,hc,hd,by simpa using hs⟩,?_⟩
  have e:=r.length;simp only[Array.length_toList] at e
  omega
theorem Inv.tuple(I:Inv X pins σ H s)(h:a9 X.K H a xs):∃its:List Value,Vals xs its/\IsTup s.heap a its.toArray/\xs.length<=sizeLine:=by
 rcases h with h|⟨o,its,n,hk,hc,hs,hz,r⟩
 ·obtain⟨z,its,r,p⟩:=h.ok I.hok
  exact⟨its,r,p,z⟩
 ·refine⟨its.toList,r,⟨o,I.jW a o hk,hc,n,by simpa using hs⟩,?_⟩
  have e:=r.length;simp only[Array.length_toList] at e
  omega
theorem Inv.QM(I:Inv X pins σ H s)(h:aG X.K H a xs)(h':aG X.K H a ys):xs=ys:=by
 obtain⟨its,r,⟨o,n,e,_,_,d⟩,_⟩:=I.list h;obtain⟨its',r',⟨o',n',e',_,_,d'⟩,_⟩:=I.list h';rw[e] at e';cases e'
 rw[d] at d'
 injection d' with d1 _
 have:its=its':=by simpa using congrArg Array.toList d1
 subst this
 exact r.inj r'
theorem Inv.gy(I:Inv X pins σ H s)(h:a9 X.K H a xs)(h':a9 X.K H a ys):xs=ys:=by
 obtain⟨its,r,⟨o,e,_,n,d⟩,_⟩:=I.tuple h;obtain⟨its',r',⟨o',e',_,n',d'⟩,_⟩:=I.tuple h';rw[e] at e';cases e'
 rw[d] at d'
 injection d' with d1 _
 have:its=its':=by simpa using congrArg Array.toList d1
 subst this
 exact r.inj r'
end
abbrev Cx.wish(X:Cx)(E:cJ):Cx:={ X with xe:=E }
abbrev Cx.B1(X:Cx):Cx:=X.wish λ_ _=>False
theorem Cx.Ok.wish{X:Cx}(ok:X.Ok)(E:cJ):(X.wish E).Ok:=
 ⟨ok.mod,ok.kind,ok.glob,ok.blt,ok.above,ok.inj,ok.has,ok.cab,ok.hd,ok.frames,ok.stk,ok.Qz,ok.bs,ok.oJ,ok.xW,ok.Ay,ok.mV,ok.tZ⟩
theorem Cx.Ok.qR{X:Cx}{E:cJ}(ok:(X.wish E).Ok):X.Ok:=
 ⟨ok.mod,ok.kind,ok.glob,ok.blt,ok.above,ok.inj,ok.has,ok.cab,ok.hd,ok.frames,ok.stk,ok.Qz,ok.bs,ok.oJ,ok.xW,ok.Ay,ok.mV,ok.tZ⟩
section
variable {X:Cx}{pins:c7}{σ:St}{H:Hp}{s:Shared}{E:cJ}
theorem Inv.wish(I:Inv X pins σ H s)(E:cJ):Inv (X.wish E) pins σ H s:=⟨I.ok.wish E,I.os,I.bare,I.base,I.loc,I.cell,I.free,I.mX,I.pin,I.hok,I.len⟩
theorem Inv.qR(I:Inv (X.wish E) pins σ H s):Inv X pins σ H s:=⟨I.ok.qR,I.os,I.bare,I.base,I.loc,I.cell,I.free,I.mX,I.pin,I.hok,I.len⟩
theorem SP.qR{D:Ends}{f:Flow}{s':Shared}(h:SP (X.wish E) pins D f s'):SP X pins D f s':=by
 cases f with
 |next=>obtain⟨σ',H',I,q⟩:=h;exact⟨σ',H',I.qR,q⟩
 |brk=>obtain⟨σ',H',I,q⟩:=h;exact⟨σ',H',I.qR,q⟩
 |cont=>obtain⟨σ',H',I,q⟩:=h;exact⟨σ',H',I.qR,q⟩
 |ret u=>obtain⟨v,σ',H',I,r,q⟩:=h;exact⟨v,σ',H',I.qR,r,q⟩
theorem jk.B1{st:List Stmt}{t:TS}(h:jk X.B1 st t):jk X st t:=λpins s σ H D I hw=>
 wpAny_mono (h pins s σ H D (I.wish _) hw) (λ_ _ q=>q.qR) λ_ _ z=>False.elim z
end
section
variable {X:Cx}{st:Stmt}{rest:List Stmt}{t u:TS}{e:Expr}{te:TE}{pos:Pos}
def gE:TS:=λD σ H=>D.nx σ H
def Ec(t u:TS):TS:=λD σ H=>t { D with nx:=u D } σ H
theorem gI:jk X [] gE:=λ_ _ σ H _ I h=>wpAny_execs_nil ⟨σ,H,I,h⟩
theorem gL(h1:PS X st t)(h2:jk X rest u):jk X (st::rest) (Ec t u):=by
 intro pins s σ H D I h;refine wpAny_execs_cons (aX (h1 pins s σ H { D with nx:=u D } I h) λf s1 q=>?_);cases f with
 |next=>
  obtain⟨σ',H',I',q⟩:=q;exact h2 pins s1 σ' H' D I' q
 |ret v=>exact q
 |brk=>exact q
 |cont=>exact q
theorem gN(h1:PS X st t):jk X [st] t:=by
 intro pins s σ H D I h;refine wpAny_execs_cons (aX (h1 pins s σ H D I h) λf s1 q=>?_);cases f with
 |next=>exact wpAny_execs_nil q
 |ret v=>exact q
 |brk=>exact q
 |cont=>exact q
def gT:TS:=λD σ H=>D.ct σ H
theorem gX:PS X (.Continue pos) gT:=λ_ _ σ H _ I h=>wpAny_Continue ⟨σ,H,I,h⟩
theorem Inv.quiet{pins:c7}{σ:St}{H:Hp}{s:Shared}(I:Inv X pins σ H s):interactive X.env=false:=by simp[interactive,I.ok.kind]
def hG(te:TE):TS:=λD σ H=>te σ H λ_ H1=>D.nx σ H1
theorem hV(he:PE X e te)(hs:swapsWith e none pos.line X.env=pure false:=by rfl):PS X (.Expr e pos) (hG te):=by
 intro pins s σ H D I h;exact wpAny_Expr_any (aX (he pins s σ H _ I h) λv s1 ⟨x,H1,I1,r1,q1⟩=>⟨σ,H1,I1,q1⟩) I.quiet hs
def ic(te:TE):TS:=λD σ H=>te σ H D.rt
theorem ie(he:PE X e te):PS X (.Return (some e) pos) (ic te):=by
 intro pins s σ H D I h;exact wpAny_Return_some (aX (he pins s σ H _ I h) λv s1 ⟨x,H1,I1,r1,q1⟩=>⟨x,σ,H1,I1,r1,q1⟩)
def ii(c:TT)(t u:TS):TS:=λD σ H=>c σ H λb H1=>if b=true then t D σ H1 else u D σ H1
theorem ik{c:Expr}{a b:List Stmt}{tc:TT}(hc:PT X c tc)(ha:jk X a t)(hb:jk X b u):PS X (.If c a b pos) (ii tc t u):=by
 intro pins s σ H D I h;refine wpAny_If (aX (hc pins s σ H _ I h) λd s1 ⟨H1,I1,q1⟩=>?_);cases d with
 |true=>exact ha pins s1 σ H1 D I1 q1
 |false=>exact hb pins s1 σ H1 D I1 q1
def il:TS:=λ_ _ _=>False
theorem im{sts:List Stmt}:jk X sts il:=λ_ _ _ _ _ _ h=>h.elim
end
abbrev TG:=V->St->Hp->(St->Hp->Prop)->Prop
def PG(X:Cx)(target:Expr)(t:TG):Prop:=
 ∀(pins:c7) (s:Shared) (σ:St) (H:Hp) (v:V) (u:Value) (Q:St->Hp->Prop),Inv X pins σ H s->RelV v u->t v σ H Q->
  wpAny (model X.prog X.w) X.A (assign target X.env u) (λ_ s'=>∃σ' H',Inv X pins σ' H' s'/\Q σ' H') X.xe s
abbrev Ef:=V->V->Hp->VK->Prop
def Eh(X:Cx)(op:Operator)(t:Ef):Prop:=
 ∀(pins:c7) (s:Shared) (σ:St) (H:Hp) (x y:V) (v u:Value) (Q:VK),Inv X pins σ H s->RelV x v->RelV y u->t x y H Q->
  wpAny (model X.prog X.w) X.A (inplaceOp op v u) (EP X pins σ Q) X.xe s
section
variable {X:Cx}{pos:Pos}
def B2(i:Nat):TG:=λv σ H Q=>Q (σ.set i (some v)) H
theorem jX{i:Nat}{x:Str}(hN:X.N.Nodup)(hi:X.N[i]? = some x)(hx:Loc X.env.scope x)(hf:X.fn x=true\/X.env.scope.names.lookup x=some .local:=by first|exact .inl rfl|exact .inr rfl|assumption):PG X (.Name x pos) (B2 i):=by
 intro pins s σ H v u Q I r h;exact wpAny_assign_Name (Ea I hN hi hx r (λs' I'=>⟨_,H,I',h⟩) hf)
def QV(te:TE)(g:TG):TS:=λD σ H=>te σ H λx H1=>g x σ H1 D.nx
theorem ip{i:Nat}{x:Str}{e:Expr}{te:TE}{pos':Pos}(hN:X.N.Nodup)(hi:X.N[i]? = some x)(hx:Loc X.env.scope x)(he:PE X e te)(hs:swapsWith e (some (.Name x pos')) pos.line X.env=pure false:=by rfl)(hf:X.fn x=true\/X.env.scope.names.lookup x=some .local:=by first|exact .inl rfl|exact .inr rfl|assumption):
  PS X (.Assign [.Name x pos'] e pos) (QV te (B2 i)):=by
 intro pins s σ H D I h;refine wpAny_Assign_Name (aX (he pins s σ H _ I h) λv s1 ⟨y,H1,I1,r1,q1⟩=>?_) hs;exact Ea I1 hN hi hx r1 (λs2 I2=>⟨_,H1,I2,q1⟩) hf
def iq(i:Nat)(te:TE)(ti:Ef):TS:=λD σ H=>jB i σ H λx H=>te σ H λy H1=>ti x y H1 λz H2=>D.nx (σ.set i (some z)) H2
theorem iA{i:Nat}{x:Str}{e:Expr}{te:TE}{op:Operator}{ti:Ef}{pos':Pos}(hN:X.N.Nodup)(hi:X.N[i]? = some x)(hx:Loc X.env.scope x)(he:PE X e te)(ho:Eh X op ti)(hf:X.fn x=true\/X.env.scope.names.lookup x=some .local:=by first|exact .inl rfl|exact .inr rfl|assumption):
  PS X (.AugAssign (.Name x pos') op e pos) (iq i te ti):=by
 intro pins s σ H D I h;obtain⟨v,e1,h⟩:=h;obtain⟨m,hn,hl⟩:=I.loc;have vis:xV X.env.scope x:=by rcases hx with k|k;exact .inl k;exact .inr (.inl k)
 obtain⟨u,r,l⟩:=hl i x v hi e1 vis;refine wpAny_AugAssign_Name ?_;have go:wpAny (model X.prog X.w) X.A (eval e X.env) (λw s₂=>wpAny (model X.prog X.w) X.A (inplaceOp op u w) (λr s₃=>wpAny (model X.prog X.w) X.A (storeName X.env x r) (λ_=>SP X pins D .next) X.xe s₃) X.xe s₂) X.xe s:=by
  refine aX (he pins s σ H _ I h) λw s1 ⟨y,H1,I1,r1,q1⟩=>?_
  refine aX (ho pins s1 σ H1 v y u w _ I1 r r1 q1) λz s2 ⟨zv,H2,I2,r2,q2⟩=>?_
  exact Ea I2 hN hi hx r2 (λs3 I3=>⟨_,H2,I3,q2⟩) hf
 rcases l with⟨hk,hm⟩|⟨hk,c,hc,hcell⟩
 ·exact wpAny_loadName_local I.ok.kind hk hn hm go
 ·rcases hk with hk|hk
  ·exact wpAny_loadName_cell I.ok.kind hk hc hcell go
  ·rcases hx with k|k
   ·have:X.env.scope.names.lookup x=some .free:=hk
    rw[k] at this;cases this
   ·have:X.env.scope.names.lookup x=some .free:=hk
    rw[k] at this;cases this
inductive Ei(f:Int->Int->Int)(x y:V)(H:Hp)(Q:VK):Prop
 |mk (i j:Int) (a:x=.int i) (b:y=.int j) (q:Q (.int (f i j)) H):Ei f x y H Q
theorem QX:Eh X .Add (Ei λi j=>i+j):=by
 intro pins s σ H x y v u Q I r1 r2 h;obtain⟨i,j,e1,e2,q⟩:=h;subst e1;subst e2;obtain⟨t,rfl⟩:=r1;obtain⟨t',rfl⟩:=r2;exact iadd_int ⟨.int _,H,I.tok _,⟨_,rfl⟩,q⟩
theorem QZ:Eh X .Sub (Ei λi j=>i - j):=by
 intro pins s σ H x y v u Q I r1 r2 h;obtain⟨i,j,e1,e2,q⟩:=h;subst e1;subst e2;obtain⟨t,rfl⟩:=r1;obtain⟨t',rfl⟩:=r2;exact isub_int ⟨.int _,H,I.tok _,⟨_,rfl⟩,q⟩
end
section
variable {X:Cx}{pos:Pos}
def iE(c:TT)(tb:TS):TS:=λD σ H=>∃W:Nat->St->Hp->Prop,(∃m,W m σ H)/\∀m σ H,W m σ H->
 c σ H λb H1=>if b=true then ∃N:St->Hp->Prop,(∀σ' H',N σ' H'->∃m',m'<m/\W m' σ' H')/\tb { D with nx:=N,ct:=N,bk:=D.nx } σ H1 else D.nx σ H1
theorem iF{c:Expr}{body:List Stmt}{tc:TT}{tb:TS}(hp:PassesOwn (model X.prog X.w) X.A X.env X.xe)(hc:PT X c tc)(hb:jk X body tb):PS X (.While c body [] pos) (iE tc tb):=by
 intro pins s σ H D I h;obtain⟨W,⟨m0,w0⟩,turn⟩:=h;refine wpAny_While (codeAny_whileLoop (λn s'=>∃σ' H',Inv X pins σ' H' s'/\W n σ' H') ?_ m0 ⟨σ,H,I,w0⟩)
 rintro n s1 ⟨σ1,H1,I1,w1⟩
 refine wpAny_passesOwn hp (aX (hc pins s1 σ1 H1 _ I1 (turn n σ1 H1 w1)) λb s2 ⟨H2,I2,q2⟩=>?_);cases b with
 |true=>
  obtain⟨N,hN,q2⟩:=q2;rw[if_pos rfl];refine wpAny_passesOwn hp (aX (hb pins s2 σ1 H2 _ I2 q2) λf s3 q3=>?_);cases f with
  |next=>
   obtain⟨σ3,H3,I3,n3⟩:=q3;obtain⟨m',hm,w3⟩:=hN σ3 H3 n3;exact⟨m',hm,σ3,H3,I3,w3⟩
  |cont=>
   obtain⟨σ3,H3,I3,n3⟩:=q3;obtain⟨m',hm,w3⟩:=hN σ3 H3 n3;exact⟨m',hm,σ3,H3,I3,w3⟩
  |brk=>exact q3
  |ret v=>exact q3
 |false=>
  rw[if_neg Bool.false_ne_true];exact wpAny_execs_nil ⟨σ1,H2,I2,q2⟩
end
structure It where
 go:Nat->Hp->Prop
 jC:Nat->Hp->V->Hp->Prop
 stop:Nat->Hp->Prop
def nR(X:Cx)(pins:c7)(H:Hp)(b:Addr):Prop:=
 H b=none/\b≠X.env.locals/\b∉X.fs/\(b∈X.ex\/X.s₀.heap.objs.size<=b)/\(∀x c,X.env.cells.lookup x=some c->c≠b)/\∀p∈X.pn++pins,p.1≠b
theorem Inv.qT{X:Cx}{pins:c7}{σ:St}{H H':Hp}{s:Shared}{b:Addr}(I:Inv X pins σ H s)(hb:s.heap.objs.size<=b)(hn:H' b=none):nR X pins H' b:=by
 refine⟨hn,Nat.ne_of_gt (lt_of_lt_of_le I.lt hb),I.ez hb,.inr (le_trans I.sz hb),λx c e z=>?_,λp hp z=>?_⟩
 ·obtain⟨v,q⟩:=I.cell x c e
  exact absurd (lt_of_lt_of_le q.lt (by rw[z];exact hb)) (lt_irrefl _)
 ·exact absurd (lt_of_lt_of_le (Heap.lt_size (I.pin p hp).1) (by rw[z];exact hb)) (lt_irrefl _)
structure Turn (P : Program) (w : World) (K : Frag) (tg : Expr) (J : It) (fp : List Addr) (it : Addr) (tn : Nat -> Heap -> Prop) : Prop where
  mem : it ∈ fp
  obj : ∀ i h, tn i h -> ∀ b ∈ fp, ∃ o, h.get? b = some o /\ ∀ v, o.data ≠ .cell v
  keep : ∀ i h h', tn i h -> (∀ b ∈ fp, ∀ o, h.get? b = some o -> h'.get? b = some o) -> tn i h'
  item : ∀ (X : Cx), X.prog = P -> X.w = w -> X.K = K -> X.calm = true -> ∀ (i : Nat) (pins : c7) (s : Shared) (σ : St) (H : Hp) (E : cJ), Inv X pins σ H s -> (∀ b ∈ fp, nR X pins H b) -> tn i s.heap -> J.go i H ->
    wpAny (model P w) X.A (pyNext (.ref it)) (λr s1 => ∃ u, r = some u /\
      wpAny (model P w) X.A (letOwnedTupleGo tg (.ref it) u) (λ_ s2 => ∃ x H', Inv X pins σ H' s2 /\ RelV x u /\ J.jC i H x H' /\ tn (i + 1) s2.heap /\ ∀ b ∈ fp, H' b = none) E s1) E s
  done : ∀ (X : Cx), X.prog = P -> X.w = w -> X.K = K -> X.calm = true -> ∀ (i : Nat) (pins : c7) (s : Shared) (σ : St) (H : Hp) (E : cJ), Inv X pins σ H s -> (∀ b ∈ fp, nR X pins H b) -> tn i s.heap -> J.stop i H ->
    wpAny (model P w) X.A (pyNext (.ref it)) (λr s1 => r = none /\ Inv X pins σ H s1) E s
  self : ∀ (A : Around) (i : Nat) (s : Shared) (Q : cJ) (E : cJ), tn i s.heap -> Q (.ref it) s -> wpAny (model P w) A (pyIter (.ref it)) Q E s
abbrev TI:=St->Hp->(It->Hp->Prop)->Prop
def PIE(X:Cx)(pins:c7)(σ:St)(tg:Expr)(R:It->Hp->Prop)(itv:Value)(s2:Shared):Prop:=
 ∃(it:Addr) (fp:List Addr) (tn:Nat->Heap->Prop) (J:It) (H':Hp),itv=.ref it/\Inv X pins σ H' s2/\Turn X.prog X.w X.K tg J fp it tn/\tn 0 s2.heap/\(∀b∈fp,nR X pins H' b)/\R J H'
def PI(X:Cx)(tg iter:Expr)(wi:TI):Prop:=
 ∀(pins:c7) (s:Shared) (σ:St) (H:Hp) (R:It->Hp->Prop),Inv X pins σ H s->wi σ H R->
  wpAny (model X.prog X.w) X.A (eval iter X.env) (λv s1=>wpAny (model X.prog X.w) X.A (pyIter v) (PIE X pins σ tg R) X.xe s1) X.xe s
theorem y6 {M : Model} {A : Around} {E : cJ} {s : Shared} {tg : Expr} {it : Addr} {u : Value} {o : Obj} {n : String} {vs : Array Value} {Q : Unit -> Shared -> Prop} (ho : s.heap.get? it = some o) (hc : o.cls = .type n) (hd : o.data = .fields vs)
    (hn : ["enumerate", "zip", "dict_itemiterator", "dict_reverseitemiterator", "odict_iterator", "itertools.zip_longest", "itertools.pairwise"].contains n = false) (hQ : Q () s) : wpAny M A (letOwnedTupleGo tg (.ref it) u) Q E s := by
  unfold letOwnedTupleGo;cases tg <;> first
    | exact wpAny_pure hQ
    | (cases u <;> first
        | exact wpAny_pure hQ
        | (refine wpAny_bind (wpAny_load ho ?_)
           rw [hc, hd];show wpAny M A (if (["enumerate", "zip", "dict_itemiterator", "dict_reverseitemiterator", "odict_iterator", "itertools.zip_longest", "itertools.pairwise"].contains n && vs[0]? == some (rawInt _)) = true then _ else _) Q E s
           rw [if_neg (by intro h; rw [hn, Bool.false_and] at h; cases h)]
           exact wpAny_pure hQ))
def j3(K:Frag)(a:Addr):It:=
 ⟨λi H=>∃xs x,aG K H a xs/\xs[i]? = some x,λi H x H'=>H'=H/\∀xs,aG K H a xs->xs[i]? = some x,λi H=>∃xs,aG K H a xs/\xs.length<=i⟩
def y7(K:Frag)(a:Addr):It:=
 ⟨λi H=>∃xs x,a9 K H a xs/\xs[i]? = some x,λi H x H'=>H'=H/\∀xs,a9 K H a xs->xs[i]? = some x,λi H=>∃xs,a9 K H a xs/\xs.length<=i⟩
def pN(lo:Int)(n:Nat):It:=⟨λi _=>i<n,λi H x H'=>H'=H/\x=.int (lo+i),λi _=>n<=i⟩
theorem iL {P : Program} {w : World} {K : Frag} {tg : Expr} (a it : Addr) : Turn P w K tg (j3 K a) [it] it (λi h => h.IsListIter it a i) where
  mem := by simp
  obj := λi h st b hb => by
    have e : b = it := by simpa using hb
    subst e;obtain ⟨o, e, c, d⟩ := st;exact ⟨o, e, λv z => by rw [d] at z; cases z⟩
  keep := λi h h' st k => st.at λo e => k it (by simp) o e
  item := by
    intro X hP hw hK hc i pins s σ H E I hf st hg;subst hP hw hK;obtain ⟨xs, x, hq, hx⟩ := hg;obtain ⟨its, rv, p, hz⟩ := I.list hq;obtain ⟨u, hu, ru⟩ := rv.get hx;obtain ⟨f0, f1, f2, f3, f4, f5⟩ := hf it (by simp);refine wpAny_pyNext_list_item st p.isList (x := u) (by simpa using hu) λh' st' sb => ?_
    have I1 : Inv X pins σ H { s with heap := h' } := I.turned (t' := s.toks) (λb o hb e => (sb.2 b hb).trans e) f0 f1 f3 f4 f5;obtain ⟨o, e, c, d⟩ := id st';exact ⟨u, rfl, y6 (s := { s with heap := h' }) e c d (by decide) ⟨x, H, I1, ru, ⟨rfl, λys hy => by rw [I.QM hy hq]; exact hx⟩, st', λb hb => (hf b hb).1⟩⟩
  done := by
    intro X hP hw hK hc i pins s σ H E I hf st hg;subst hP hw hK;obtain ⟨xs, hq, hx⟩ := hg;obtain ⟨its, rv, p, hz⟩ := I.list hq;obtain ⟨f0, f1, f2, f3, f4, f5⟩ := hf it (by simp);have hl := rv.length;exact wpAny_pyNext_list_end (I.ok.hd hc) st p.isList (by simp; omega) λh' eb => ⟨rfl, I.turned (t' := s.toks) (λb o hb e => eb b o hb e) f0 f1 f3 f4 f5⟩
  self := λ_ _ _ _ _ st h => wpAny_pyIter_listiter st h
theorem iN {P : Program} {w : World} {K : Frag} {tg : Expr} (a it : Addr) : Turn P w K tg (y7 K a) [it] it (λi h => h.IsTupleIter it a i) where
  mem := by simp
  obj := λi h st b hb => by
    have e : b = it := by simpa using hb
    subst e;obtain ⟨o, e, c, d⟩ := st;exact ⟨o, e, λv z => by rw [d] at z; cases z⟩
  keep := λi h h' st k => st.at λo e => k it (by simp) o e
  item := by
    intro X hP hw hK hc i pins s σ H E I hf st hg;subst hP hw hK;obtain ⟨xs, x, hq, hx⟩ := hg;obtain ⟨its, rv, p, hz⟩ := I.tuple hq;obtain ⟨u, hu, ru⟩ := rv.get hx;obtain ⟨f0, f1, f2, f3, f4, f5⟩ := hf it (by simp);refine wpAny_pyNext_tuple_item st (show s.heap.IsTuple a its.toArray from p) (x := u) (by simpa using hu) λh' st' sb => ?_
    have I1 : Inv X pins σ H { s with heap := h' } := I.turned (t' := s.toks) (λb o hb e => (sb.2 b hb).trans e) f0 f1 f3 f4 f5;obtain ⟨o, e, c, d⟩ := id st';exact ⟨u, rfl, y6 (s := { s with heap := h' }) e c d (by decide) ⟨x, H, I1, ru, ⟨rfl, λys hy => by rw [I.gy hy hq]; exact hx⟩, st', λb hb => (hf b hb).1⟩⟩
  done := by
    intro X hP hw hK hc i pins s σ H E I hf st hg;subst hP hw hK;obtain ⟨xs, hq, hx⟩ := hg;obtain ⟨its, rv, p, hz⟩ := I.tuple hq;obtain ⟨f0, f1, f2, f3, f4, f5⟩ := hf it (by simp);have hl := rv.length;exact wpAny_pyNext_tuple_end (I.ok.hd hc) st (show s.heap.IsTuple a its.toArray from p) (by simp; omega) λh' eb => ⟨rfl, I.turned (t' := s.toks) (λb o hb e => eb b o hb e) f0 f1 f3 f4 f5⟩
  self := λ_ _ _ _ _ st h => wpAny_pyIter_tupleiter st h
theorem iO {P : Program} {w : World} {K : Frag} {tg : Expr} (it : Addr) (lo : Int) (n : Nat) : Turn P w K tg (pN lo n) [it] it (λi h => IsRangeIter h it (lo + (i : Nat) * 1) ((n : Int) - (i : Nat)) 1) where
  mem := by simp
  obj := λi h st b hb => by
    have e : b = it := by simpa using hb
    subst e
    exact ⟨_, st, λv z => by
      have z' : Data.fields _ = Data.cell v := z
      cases z'⟩
  keep := λi h h' st k => k it (by simp) _ st
  item := by
    intro X hP hw hK hc i pins s σ H E I hf st hg;subst hP hw hK;obtain ⟨f0, f1, f2, f3, f4, f5⟩ := hf it (by simp);have W := Walks.range (prog := X.prog) (w := X.w) (I.ok.hd hc) it lo 1 n;refine W.item i s _ _ hg st λv h' tk hv st' kk => ?_
    obtain ⟨t, rfl⟩ := hv;have I1 : Inv X pins σ H { s with heap := h', toks := tk } := I.turned (λb o hb e => kk b o (by simpa using hb) e) f0 f1 f3 f4 f5;refine ⟨_, rfl, y6 (s := { s with heap := h', toks := tk }) (n := "range_iterator") st' rfl rfl (by decide) ⟨.int (lo + i), H, I1, ⟨t, ?_⟩, ⟨rfl, rfl⟩, st', λb hb => (hf b hb).1⟩⟩
    rw [Int.mul_one]
  done := by
    intro X hP hw hK hc i pins s σ H E I hf st hg;subst hP hw hK;obtain ⟨f0, f1, f2, f3, f4, f5⟩ := hf it (by simp);exact wpAny_pyNext_range_end (I.ok.hd hc) st (by have : n <= i := hg; omega) λh' eb => ⟨rfl, I.turned (t' := s.toks) (λb o hb e => eb b o hb e) f0 f1 f3 f4 f5⟩
  self := λ_ _ _ _ _ st h => wpAny_pyIter_rangeiter st h
section
variable {X:Cx}{tg:Expr}
def iP(K:Frag)(tl:TE):TI:=λσ H R=>tl σ H λx H1=>∃a,x=.ref a/\(∃xs,aG K H1 a xs)/\R (j3 K a) H1
def iS(K:Frag)(tl:TE):TI:=λσ H R=>tl σ H λx H1=>∃a,x=.ref a/\(∃xs,a9 K H1 a xs)/\R (y7 K a) H1
theorem iX{l:Expr}{tl:TE}(hl:PE X l tl):PI X tg l (iP X.K tl):=by
 intro pins s σ H R I h;refine aX (hl pins s σ H _ I h) λv s1 ⟨x,H1,I1,r1,q1⟩=>?_
 obtain⟨a,e,⟨xs,hq⟩,q⟩:=q1;subst e;cases r1;obtain⟨its,rv,p,hz⟩:=I1.list hq;refine wpAny_pyIter_list p.isList ?_;refine⟨s1.heap.objs.size,[s1.heap.objs.size],_,_,H1,rfl,I1.kept (t':=s1.toks) λb o e=>Heap.get?_push_of_some _ e,iL a _,⟨_,Heap.get?_push_size _ rfl,rfl,rfl⟩,λb hb=>?_,q⟩;have e:b=s1.heap.objs.size:=by simpa using hb
 subst e;exact I1.qT (le_refl _) (I1.hok.fresh (le_refl _))
theorem ja{l:Expr}{tl:TE}(hl:PE X l tl):PI X tg l (iS X.K tl):=by
 intro pins s σ H R I h;refine aX (hl pins s σ H _ I h) λv s1 ⟨x,H1,I1,r1,q1⟩=>?_
 obtain⟨a,e,⟨xs,hq⟩,q⟩:=q1;subst e;cases r1;obtain⟨its,rv,p,hz⟩:=I1.tuple hq;refine wpAny_pyIter_tuple (show s1.heap.IsTuple a its.toArray from p) ?_;refine⟨s1.heap.objs.size,[s1.heap.objs.size],_,_,H1,rfl,I1.kept (t':=s1.toks) λb o e=>Heap.get?_push_of_some _ e,iN a _,⟨_,Heap.get?_push_size _ rfl,rfl,rfl⟩,λb hb=>?_,q⟩;have e:b=s1.heap.objs.size:=by simpa using hb
 subst e;exact I1.qT (le_refl _) (I1.hok.fresh (le_refl _))
theorem jb{pins:c7}{σ:St}{H:Hp}{s:Shared}{R:It->Hp->Prop}{E:cJ}{lo hi:Int}{t u v:Tok}{tk:Nat}(I:Inv X pins σ H s)(h1 : -(2 ^ 62)<=lo)(h2:lo<2 ^ 62)(h3 : -(2 ^ 62)<=hi)(h4:hi<2 ^ 62)
  (q:R (pN lo (hi - lo).toNat) H):wpAny (model X.prog X.w) X.A (pyIter (.ref s.heap.objs.size)) (PIE X pins σ tg R) E { s with heap:=s.heap.push { cls:=.type "range",data:=.fields #[.int lo t,.int hi u,.int 1 v] },toks:=tk }:=by
 refine wpAny_pyIter_range (IsRange.new ..) (small_one h1 h2 h3 h4) ?_;have I1:Inv X pins σ H { s with heap:=s.heap.push { cls:=.type "range",data:=.fields #[.int lo t,.int hi u,.int 1 v] },toks:=tk }:=I.kept λb o e=>Heap.get?_push_of_some _ e
 refine⟨(s.heap.push { cls:=.type "range",data:=.fields #[.int lo t,.int hi u,.int 1 v] }).objs.size,[(s.heap.push { cls:=.type "range",data:=.fields #[.int lo t,.int hi u,.int 1 v] }).objs.size],_,_,H,rfl,
  I1.kept (t':=tk) λb o e=>Heap.get?_push_of_some _ e,iO _ lo (hi - lo).toNat,?_,λb hb=>?_,q⟩
 ·have e1:lo+((0:Nat):Int)*1=lo:=by simp
  have e2:(((hi - lo).toNat:Nat):Int) - ((0:Nat):Int)=Builtin.Range.rangeSize lo hi 1:=by rw[rangeSize_one];split<;>omega
  show IsRangeIter _ _ (lo+((0:Nat):Int)*1) ((((hi - lo).toNat:Nat):Int) - ((0:Nat):Int)) 1;rw[e1,e2];exact Heap.get?_push_size _ rfl
 ·have e:b=(s.heap.push { cls:=.type "range",data:=.fields #[.int lo t,.int hi u,.int 1 v] }).objs.size:=by simpa using hb
  subst e;exact I1.qT (le_refl _) (I1.hok.fresh (le_refl _))
def jv(ta:TA):TI:=λσ H R=>ta σ H λvs H1=>∃j:Int,vs=[.int j] /\ -(2 ^ 62)<=j/\j<2 ^ 62/\R (pN 0 j.toNat) H1
theorem jI{a:Expr}{ta:TA}{p pos:Pos}(hg:Gl X "range")(hm:X.mg "range"=none)(ha:PA X [a] ta)(hs:starEach [a] X.env=[(false,eval a X.env)]:=by rfl):PI X tg (.Call (.Name "range" p) [a] [] pos) (jv ta):=by
 intro pins s σ H R I h;refine Call_ (y4 I hg hm boot_range (PyProof.Rows.callWith_type1 (aX (ha pos pins s σ H _ I h) λus s1 ⟨vs,H1,I1,r1,q1⟩=>?_) hs rfl));obtain⟨j,e,q1,q2,q⟩:=q1;subst e;cases r1 with
 |cons r rr=>
  cases rr;obtain⟨t,rfl⟩:=r;exact call_range_1 (jb I1 (by omega) (by omega) q1 q2 (by simpa using q))
def jS(wi:TI)(g:TG)(tb:TS):TS:=λD σ H=>wi σ H λJ H1=>∃W:Nat->Nat->St->Hp->Prop,(∃m,W 0 m σ H1)/\∀i m σ H,W i m σ H->
 (J.stop i H/\D.nx σ H)\/(J.go i H/\∃N:St->Hp->Prop,(∀σ' H',N σ' H'->∃m',m'<m/\W (i+1) m' σ' H')/\∀x H',J.jC i H x H'->g x σ H' λσ2 H2=>tb { D with nx:=N,ct:=N,bk:=D.nx } σ2 H2)
def y9(fp:List Addr)(h:Heap):c7:=fp.filterMap λb=>(h.get? b).map λo=>(b,o)
theorem B3{fp:List Addr}{h:Heap}{b:Addr}{o:Obj}(hb:b∈fp)(e:h.get? b=some o):(b,o)∈y9 fp h:=List.mem_filterMap.mpr ⟨b,hb,by rw[e];rfl⟩
theorem ka{fp:List Addr}{h:Heap}{p:Addr×Obj}(hp:p∈y9 fp h):p.1∈fp/\h.get? p.1=some p.2:=by
 obtain⟨b,hb,e⟩:=List.mem_filterMap.mp hp;cases q:h.get? b with
 |none=>rw[q] at e;cases e
 |some o=>
  rw[q] at e
  have e':(b,o)=p:=Option.some.inj e;subst e';exact⟨hb,q⟩
theorem Inv.pinned{pins:c7}{σ:St}{H:Hp}{s:Shared}{fp:List Addr}(I:Inv X pins σ H s)(hf:∀b∈fp,nR X pins H b)(ho:∀b∈fp,∃o,s.heap.get? b=some o/\∀v,o.data≠.cell v):Inv X (pins++y9 fp s.heap) σ H s:=
 I.QD λp hp=>(List.mem_append.mp hp).elim (λz=>I.pin p (mem_append_right _ z)) λz=>by
  obtain⟨hb,e⟩:=ka z;obtain⟨f0,f1,f2,_⟩:=hf p.1 hb;obtain⟨o,e',d⟩:=ho p.1 hb;rw[e] at e';cases e'
  exact⟨e,f0,f1,f2,d⟩
theorem Inv.B4{pins pl:c7}{σ:St}{H:Hp}{s:Shared}(I:Inv X (pins++pl) σ H s):Inv X pins σ H s:=I.QD λp hp=>I.pin p (mem_append_right _ (mem_append_left _ hp))
theorem kb{iter:Expr}{body:List Stmt}{wi:TI}{g:TG}{tb:TS}{pos:Pos}(hp:PassesOwn (model X.prog X.w) X.A X.env X.xe)(hc:X.calm=true)(hi:PI X tg iter wi)(hg:PG X tg g)(hb:jk X body tb)
  (hs:∀x,foldedSetIterable iter X.env x=pure x:=by intro _;rfl):PS X (.For tg iter body [] pos) (jS wi g tb):=by
 intro pins s σ H D I h;refine wpAny_For (aX (hi pins s σ H _ I h) λv s1 h1=>aX h1 λitv s2 h2=>?_) hs;obtain⟨it,fp,tn,J,H2,e,I2,T,st2,f2,W,⟨m0,w0⟩,turn⟩:=h2;subst e;have stat:∀ {H':Hp},(∀b∈fp,H' b=none)->∀b∈fp,nR X pins H' b:=λhn b hb=>⟨hn b hb,(f2 b hb).2⟩
 refine codeAny_forLoop_any (λn s'=>∃i σ' H',Inv X pins σ' H' s'/\tn i s'.heap/\(∀b∈fp,H' b=none)/\W i n σ' H') ?_ m0 ⟨0,σ,H2,I2,st2,λb hb=>(f2 b hb).1,w0⟩
 rintro n s3 ⟨i,σ3,H3,I3,st3,R0,w3⟩
 rcases turn i n σ3 H3 w3 with⟨stop,qn⟩|⟨go,N,hN,step⟩
 ·refine wpAny_passesOwn hp (aX (T.done X rfl rfl rfl hc i pins s3 σ3 H3 X.xe I3 (stat R0) st3 stop) λr s4 ⟨hr,I4⟩=>?_)
  subst hr;exact wpAny_execs_nil ⟨σ3,H3,I4,qn⟩
 ·refine wpAny_passesOwn hp (aX (T.item X rfl rfl rfl hc i pins s3 σ3 H3 X.xe I3 (stat R0) st3 go) λr s4 ⟨u,hr,h4⟩=>?_)
  subst hr;refine wpAny_passesOwn hp (aX h4 λ_ s5 ⟨x,H5,I5,r5,y5,yc,Ej⟩=>?_);have kc:=I5.pinned (stat Ej) (T.obj _ _ yc);refine wpAny_passesOwn hp (aX (hg _ s5 σ3 H5 x u _ kc r5 (step x H5 y5)) λ_ s6 ⟨σ6,H6,I6,q6⟩=>?_);refine wpAny_passesOwn hp (aX (hb _ s6 σ6 H6 _ I6 q6) λf s7 q7=>?_);have again:∀ {σ7:St} {H7:Hp},Inv X (pins++y9 fp s5.heap) σ7 H7 s7->N σ7 H7->∃m,m<n/\∃i σ' H',Inv X pins σ' H' s7/\tn i s7.heap/\(∀b∈fp,H' b=none)/\W i m σ' H':=λ{σ7 H7} I7 n7=>by
   obtain⟨m',hm,w7⟩:=hN σ7 H7 n7;refine⟨m',hm,i+1,σ7,H7,I7.B4,T.keep _ _ _ yc λb hb o e=>(I7.pin (b,o) (mem_append_right _ (mem_append_right _ (B3 hb e)))).1,λb hb=>?_,w7⟩;obtain⟨o,e,d⟩:=T.obj _ _ yc b hb;exact(I7.pin (b,o) (mem_append_right _ (mem_append_right _ (B3 hb e)))).2.1
  cases f with
  |next=>obtain⟨σ7,H7,I7,n7⟩:=q7;exact again I7 n7
  |cont=>obtain⟨σ7,H7,I7,n7⟩:=q7;exact again I7 n7
  |brk=>obtain⟨σ7,H7,I7,q7⟩:=q7;exact⟨σ7,H7,I7.B4,q7⟩
  |ret v=>obtain⟨x7,σ7,H7,I7,r7,q7⟩:=q7;exact⟨x7,σ7,H7,I7.B4,r7,q7⟩
end
theorem yd{K:Frag}{a:Addr}{xs:List V}{g:TG}{tb:TS}{D:Ends}{σ:St}{H:Hp}(Pv:Nat->St->Hp->Prop)(h0:Pv 0 σ H)(hl:∀i σ H,i<=xs.length->Pv i σ H->aG K H a xs)
  (hs:∀i x σ H,xs[i]? = some x->Pv i σ H->g x σ H λσ2 H2=>tb { D with nx:=Pv (i+1),ct:=Pv (i+1),bk:=D.nx } σ2 H2) (hd:∀σ H,Pv xs.length σ H->D.nx σ H):
  ∃W:Nat->Nat->St->Hp->Prop,(∃m,W 0 m σ H)/\∀i m σ H,W i m σ H->
   ((j3 K a).stop i H/\D.nx σ H)\/((j3 K a).go i H/\∃N:St->Hp->Prop,(∀σ' H',N σ' H'->∃m',m'<m/\W (i+1) m' σ' H')/\∀x H',(j3 K a).jC i H x H'->g x σ H' λσ2 H2=>tb { D with nx:=N,ct:=N,bk:=D.nx } σ2 H2):=by
 refine⟨λi m σ H=>m=xs.length - i/\i<=xs.length/\Pv i σ H,⟨xs.length,by simp,zero_le _,h0⟩,?_⟩
 rintro i m σ H ⟨rfl,hi,p⟩
 have q:=hl i σ H hi p
 by_cases hlt:i<xs.length
 ·refine .inr ⟨⟨xs,xs[i],q,by simp[hlt]⟩,Pv (i+1),λσ' H' p'=>⟨xs.length - (i+1),by omega,rfl,hlt,p'⟩,λx H' y=>?_⟩
  obtain⟨e,y⟩:=y;subst e;exact hs i x σ _ (y xs q) p
 ·have e:i=xs.length:=by omega
  subst e;exact .inl ⟨⟨xs,q,le_refl _⟩,hd σ H p⟩
theorem kd{K:Frag}{a:Addr}{xs:List V}{g:TG}{tb:TS}{D:Ends}{σ:St}{H:Hp}(Pv:Nat->St->Hp->Prop)(h0:Pv 0 σ H)(hl:∀i σ H,i<=xs.length->Pv i σ H->a9 K H a xs)
  (hs:∀i x σ H,xs[i]? = some x->Pv i σ H->g x σ H λσ2 H2=>tb { D with nx:=Pv (i+1),ct:=Pv (i+1),bk:=D.nx } σ2 H2) (hd:∀σ H,Pv xs.length σ H->D.nx σ H):
  ∃W:Nat->Nat->St->Hp->Prop,(∃m,W 0 m σ H)/\∀i m σ H,W i m σ H->
   ((y7 K a).stop i H/\D.nx σ H)\/((y7 K a).go i H/\∃N:St->Hp->Prop,(∀σ' H',N σ' H'->∃m',m'<m/\W (i+1) m' σ' H')/\∀x H',(y7 K a).jC i H x H'->g x σ H' λσ2 H2=>tb { D with nx:=N,ct:=N,bk:=D.nx } σ2 H2):=by
 refine⟨λi m σ H=>m=xs.length - i/\i<=xs.length/\Pv i σ H,⟨xs.length,by simp,zero_le _,h0⟩,?_⟩
 rintro i m σ H ⟨rfl,hi,p⟩
 have q:=hl i σ H hi p
 by_cases hlt:i<xs.length
 ·refine .inr ⟨⟨xs,xs[i],q,by simp[hlt]⟩,Pv (i+1),λσ' H' p'=>⟨xs.length - (i+1),by omega,rfl,hlt,p'⟩,λx H' y=>?_⟩
  obtain⟨e,y⟩:=y;subst e;exact hs i x σ _ (y xs q) p
 ·have e:i=xs.length:=by omega
  subst e;exact .inl ⟨⟨xs,q,le_refl _⟩,hd σ H p⟩
theorem ke{lo:Int}{n:Nat}{g:TG}{tb:TS}{D:Ends}{σ:St}{H:Hp}(Pv:Nat->St->Hp->Prop)(h0:Pv 0 σ H)
  (hs:∀i σ H,i<n->Pv i σ H->g (.int (lo+i)) σ H λσ2 H2=>tb { D with nx:=Pv (i+1),ct:=Pv (i+1),bk:=D.nx } σ2 H2) (hd:∀σ H,Pv n σ H->D.nx σ H):
  ∃W:Nat->Nat->St->Hp->Prop,(∃m,W 0 m σ H)/\∀i m σ H,W i m σ H->
   ((pN lo n).stop i H/\D.nx σ H)\/((pN lo n).go i H/\∃N:St->Hp->Prop,(∀σ' H',N σ' H'->∃m',m'<m/\W (i+1) m' σ' H')/\∀x H',(pN lo n).jC i H x H'->g x σ H' λσ2 H2=>tb { D with nx:=N,ct:=N,bk:=D.nx } σ2 H2):=by
 refine⟨λi m σ H=>m=n - i/\i<=n/\Pv i σ H,⟨n,by simp,zero_le _,h0⟩,?_⟩
 rintro i m σ H ⟨rfl,hi,p⟩
 by_cases hlt:i<n
 ·refine .inr ⟨hlt,Pv (i+1),λσ' H' p'=>⟨n - (i+1),by omega,rfl,hlt,p'⟩,λx H' y=>?_⟩
  obtain⟨e,y⟩:=y;subst e y;exact hs i σ _ hlt p
 ·have e:i=n:=by omega
  subst e;exact .inl ⟨le_refl _,hd σ H p⟩
abbrev R2:=V->V->Hp->VK->Prop
def gC(X:Cx)(f:Value->Value->Sem Value)(r:R2):Prop:=
 ∀(pins:c7) (s:Shared) (σ:St) (H:Hp) (x y:V) (v u:Value) (Q:VK),Inv X pins σ H s->RelV x v->RelV y u->r x y H Q->
  wpAny (model X.prog X.w) X.A (f v u) (EP X pins σ Q) X.xe s
def Ek(X:Cx)(f:Value->Sem Value)(r:V->Hp->VK->Prop):Prop:=
 ∀(pins:c7) (s:Shared) (σ:St) (H:Hp) (x:V) (v:Value) (Q:VK),Inv X pins σ H s->RelV x v->r x H Q->
  wpAny (model X.prog X.w) X.A (f v) (EP X pins σ Q) X.xe s
def je(X:Cx)(f:Value)(r:List V->Hp->VK->Prop):Prop:=
 ∀(pins:c7) (s:Shared) (σ:St) (H:Hp) (xs:List V) (us:List Value) (Q:VK),Inv X pins σ H s->Vals xs us->r xs H Q->
  wpAny (model X.prog X.w) X.A (call f us) (EP X pins σ Q) X.xe s
def kf(X:Cx)(r:V->Hp->(Bool->Hp->Prop)->Prop):Prop:=
 ∀(pins:c7) (s:Shared) (σ:St) (H:Hp) (x:V) (v:Value) (Q:Bool->Hp->Prop),Inv X pins σ H s->RelV x v->r x H Q->
  wpAny (model X.prog X.w) X.A (truthy v) (TP X pins σ Q) X.xe s
def qU(r:R2)(ta tb:TE):TE:=λσ H Q=>ta σ H λx H1=>tb σ H1 λy H2=>r x y H2 Q
def R5(r:V->Hp->VK->Prop)(ta:TE):TE:=λσ H Q=>ta σ H λx H1=>r x H1 Q
inductive rI(C:Int->Int->Prop)(g:Int->Int->V)(x y:V)(H:Hp)(Q:VK):Prop
 |mk (i j:Int) (a:x=.int i) (b:y=.int j) (c:C i j) (q:Q (g i j) H):rI C g x y H Q
inductive qW(g:Int->Int->V)(x y:V)(H:Hp)(Q:VK):Prop
 |mk (i j:Int) (a:x=.int i) (b:y=.int j) (q:Q (g i j) H):qW g x y H Q
def rU(g:Int->V):V->Hp->VK->Prop:=λx H Q=>∃i,x=.int i/\Q (g i) H
section
variable {X:Cx}{a b c:Expr}{ta tb tc:TE}{pos:Pos}
theorem El(ha:PE X a ta)(hb:PE X b tb){pins:c7}{s:Shared}{σ:St}{H:Hp}{R:V->V->Hp->Prop}(I:Inv X pins σ H s)
  (h:ta σ H λx H1=>tb σ H1 λy H2=>R x y H2) {Q:cJ} {f:Value->Value->Sem Value}
  (hf:∀v u s2 x y H2,Inv X pins σ H2 s2->RelV x v->RelV y u->R x y H2->wpAny (model X.prog X.w) X.A (f v u) Q X.xe s2):
  wpAny (model X.prog X.w) X.A (eval a X.env) (λv s₁=>wpAny (model X.prog X.w) X.A (eval b X.env) (λu s₂=>wpAny (model X.prog X.w) X.A (f v u) Q X.xe s₂) X.xe s₁) X.xe s:=by
 refine aX (ha pins s σ H _ I h) λv s1 ⟨x,H1,I1,r1,q1⟩=>?_
 refine aX (hb pins s1 σ H1 _ I1 q1) λu s2 ⟨y,H2,I2,r2,q2⟩=>?_
 exact hf v u s2 x y H2 I2 r1 r2 q2
theorem kg{op:Operator}{r:R2}(ho:gC X (binaryOp op) r)(ha:PE X a ta)(hb:PE X b tb):PE X (.BinOp a op b pos) (qU r ta tb):=by
 intro pins s σ H Q I h;exact wpAny_BinOp (El ha hb I h λv u s2 x y H2 I2 rx ry q=>ho pins s2 σ H2 x y v u Q I2 rx ry q)
theorem ki{op:UnaryOp}{r:V->Hp->VK->Prop}(ho:Ek X (unaryOp op) r)(ha:PE X a ta):PE X (.UnaryOp op a pos) (R5 r ta):=by
 intro pins s σ H Q I h;exact UnaryOp_ (aX (ha pins s σ H _ I h) λv s1 ⟨x,H1,I1,r1,q1⟩=>ho pins s1 σ H1 x v Q I1 r1 q1)
theorem yg{f:Value->Value->Sem Value}{C:Int->Int->Prop}{g:Int->Int->Int}
  (rule:∀(i j:Int) (t u:Tok) (s:Shared) (Q:cJ) (E:cJ),C i j->Q (.int (g i j) s.toks) { s with toks:=s.toks+1 }->wpAny (model X.prog X.w) X.A (f (.int i t) (.int j u)) Q E s):
  gC X f (rI C λi j=>.int (g i j)):=by
 intro pins s σ H x y v u Q I rx ry h;obtain⟨i,j,rfl,rfl,hc,q⟩:=h;obtain⟨t,rfl⟩:=rx;obtain⟨t',rfl⟩:=ry;exact rule i j t t' s _ _ hc ⟨.int (g i j),H,I.tok _,⟨_,rfl⟩,q⟩
theorem R6{f:Value->Value->Sem Value}{g:Int->Int->Int}
  (rule:∀(i j:Int) (t u:Tok) (s:Shared) (Q:cJ) (E:cJ),Q (.int (g i j) s.toks) { s with toks:=s.toks+1 }->wpAny (model X.prog X.w) X.A (f (.int i t) (.int j u)) Q E s):
  gC X f (qW λi j=>.int (g i j)):=by
 intro pins s σ H x y v u Q I rx ry h;obtain⟨i,j,rfl,rfl,q⟩:=h;obtain⟨t,rfl⟩:=rx;obtain⟨t',rfl⟩:=ry;exact rule i j t t' s _ _ ⟨.int (g i j),H,I.tok _,⟨_,rfl⟩,q⟩
theorem Em{f:Value->Value->Sem Value}{g:Int->Int->Bool}
  (rule:∀(i j:Int) (t u:Tok) (s:Shared) (Q:cJ) (E:cJ),Q (.bool (g i j)) s->wpAny (model X.prog X.w) X.A (f (.int i t) (.int j u)) Q E s):
  gC X f (qW λi j=>.bl (g i j)):=by
 intro pins s σ H x y v u Q I rx ry h;obtain⟨i,j,rfl,rfl,q⟩:=h;obtain⟨t,rfl⟩:=rx;obtain⟨t',rfl⟩:=ry;exact rule i j t t' s _ _ ⟨.bl (g i j),H,I,rfl,q⟩
def km(i j:Int):Prop:=0<j/\j<1073741824
def ko(i j:Int):Prop:=0<=j/\j<=1000000/\i.natAbs<2 ^ 64
def En(i j:Int):Prop:=(-(2 ^ 64)<i/\i<2 ^ 64)\/(-(2 ^ 64)<j/\j<2 ^ 64)
theorem En.ok{i j:Int}(h:En i j):IntMulOk i j:=by
 rcases h with⟨h1,h2⟩|⟨h1,h2⟩
 ·exact .of_left (intBits_le_64 h1 h2)
 ·exact .of_right (intBits_le_64 h1 h2)
theorem iQ:gC X (binaryOp .Add) (qW λi j=>.int (i+j)):=R6 λ_ _ _ _ _ _ _ q=>add_int q
theorem pO:gC X (binaryOp .Sub) (qW λi j=>.int (i - j)):=R6 λ_ _ _ _ _ _ _ q=>sub_int q
theorem u9:gC X (binaryOp .Mult) (rI En λi j=>.int (i*j)):=yg λ_ _ _ _ _ _ _ hc q=>mul_int q hc.ok
theorem pP:gC X (binaryOp .FloorDiv) (rI km λi j=>.int (i / j)):=yg λi j _ _ _ _ _ hc q=>by
 have h1:(0:Int)<j:=hc.1;have h2:j<1073741824:=hc.2;exact floordiv_int (by omega) (by rw[Int.fdiv_eq_ediv_of_nonneg i (by omega)];exact q) (.inl (PyProof.noPylong_small (by omega)))
theorem jE:gC X (binaryOp .Mod) (rI (λ_ j=>0<j) λi j=>.int (i % j)):=yg λi j _ _ _ _ _ hc q=>by
 have h1:(0:Int)<j:=hc;exact mod_int' (by omega) (by rw[Int.fmod_eq_emod_of_nonneg i (by omega)];exact q)
theorem kq:gC X (binaryOp .Pow) (rI ko λi j=>.int (i ^ j.toNat)):=yg λ_ _ _ _ _ _ _ hc q=>pow_int_small hc.1 hc.2.1 hc.2.2 q
theorem kr{f:Value->Sem Value}{g:Int->Int}
  (rule:∀(i:Int) (t:Tok) (s:Shared) (Q:cJ) (E:cJ),Q (.int (g i) s.toks) { s with toks:=s.toks+1 }->wpAny (model X.prog X.w) X.A (f (.int i t)) Q E s):
  Ek X f (rU λi=>.int (g i)):=by
 intro pins s σ H x v Q I rx h;obtain⟨i,rfl,q⟩:=h;obtain⟨t,rfl⟩:=rx;exact rule i t s _ _ ⟨.int (g i),H,I.tok _,⟨_,rfl⟩,q⟩
theorem uc:Ek X (unaryOp .USub) (rU λi=>.int (-i)):=kr λ_ _ _ _ _ q=>neg_int q
end
noncomputable def R8:V->V->Bool
 |.non,.non=>true|.non,.int _=>true|.int _,.non=>true|.non,.bl _=>true|.bl _,.non=>true|.non,.str _=>true|.str _,.non=>true
 |.int _,.int _=>true|.bl _,.bl _=>true|.str _,.str _=>true|.jA _,.jA _=>true
 |.int _,.str _=>true|.str _,.int _=>true|.bl _,.str _=>true|.str _,.bl _=>true
 |_,_=>false
def kx:R2:=λx y H Q=>R8 x y=true/\Q (.bl (decide (x=y))) H
def ky:R2:=λx y H Q=>R8 x y=true/\Q (.bl (!decide (x=y))) H
theorem R9{i j:Int}:decide (V.int i=V.int j)=(i==j):=by
 rw[Bool.eq_iff_iff];simp
theorem Ra{i j:Bool}:decide (V.bl i=V.bl j)=(i==j):=by
 rw[Bool.eq_iff_iff];simp
theorem Rb{i j:Str}:decide (V.str i=V.str j)=(i==j):=by
 rw[Bool.eq_iff_iff];simp
theorem Rf{i j:Array UInt8}:decide (V.jA i=V.jA j)=(i.toList==j.toList):=by
 rw[Bool.eq_iff_iff];cases i;cases j;simp
section
variable {X:Cx}{a b c:Expr}{ta tb tc:TE}{pos:Pos}
theorem gj{pins:c7}{σ:St}{H:Hp}{s:Shared}{Q:VK}{k k':Bool}(I:Inv X pins σ H s)(q:Q (.bl k) H)(e:k=k'):EP X pins σ Q (.bool k') s:=by
 subst e;exact⟨.bl k,H,I,rfl,q⟩
theorem d8:gC X (compareOp .Eq) kx:=by
 intro pins s σ H x y v u Q I rx ry h;obtain⟨hs,q⟩:=h;cases x with
 |non=>
  cases rx;cases y with
  |non=>cases ry;exact PySem.EqNone.eq_none_none (gj I q (by simp))
  |bl j=>cases ry;exact PySem.EqNone.eq_none_bool (gj I q (by simp))
  |int j=>obtain⟨t',rfl⟩:=ry;exact PySem.EqNone.eq_none_int (gj I q (by simp))
  |str j=>obtain⟨t',rfl⟩:=ry;exact PySem.EqNone.eq_none_str (gj I q (by simp))
  |_=>exact absurd (show false=true from hs) Bool.false_ne_true
 |bl i=>
  cases rx;cases y with
  |non=>cases ry;exact PySem.EqNone.eq_bool_none (gj I q (by simp))
  |bl j=>cases ry;exact eq_bool (gj I q Ra)
  |str j=>obtain⟨t',rfl⟩:=ry;exact PySem.EqMixed.eq_bool_str (gj I q (by simp))
  |_=>exact absurd (show false=true from hs) Bool.false_ne_true
 |int i=>
  obtain⟨t,rfl⟩:=rx;cases y with
  |non=>cases ry;exact PySem.EqNone.eq_int_none (gj I q (by simp))
  |int j=>obtain⟨t',rfl⟩:=ry;exact eq_int (gj I q R9)
  |str j=>obtain⟨t',rfl⟩:=ry;exact PySem.EqMixed.eq_int_str (gj I q (by simp))
  |_=>exact absurd (show false=true from hs) Bool.false_ne_true
 |str i=>
  obtain⟨t,rfl⟩:=rx;cases y with
  |non=>cases ry;exact PySem.EqNone.eq_str_none (gj I q (by simp))
  |bl j=>cases ry;exact PySem.EqMixed.eq_str_bool (gj I q (by simp))
  |int j=>obtain⟨t',rfl⟩:=ry;exact PySem.EqMixed.eq_str_int (gj I q (by simp))
  |str j=>obtain⟨t',rfl⟩:=ry;exact eq_str (gj I q Rb)
  |_=>exact absurd (show false=true from hs) Bool.false_ne_true
 |jA i=>
  obtain⟨t,rfl⟩:=rx;cases y with
  |jA j=>obtain⟨t',rfl⟩:=ry;exact PySem.W.eq_bytes (gj I q Rf)
  |_=>exact absurd (show false=true from hs) Bool.false_ne_true
 |_=>cases y<;>exact absurd (show false=true from hs) Bool.false_ne_true
theorem kz:gC X (compareOp .NotEq) ky:=by
 intro pins s σ H x y v u Q I rx ry h;obtain⟨hs,q⟩:=h;cases x with
 |non=>
  cases rx;cases y with
  |non=>cases ry;exact PySem.EqNone.ne_none_none (gj I q (by simp))
  |bl j=>cases ry;exact PySem.EqNone.ne_none_bool (gj I q (by simp))
  |int j=>obtain⟨t',rfl⟩:=ry;exact PySem.EqNone.ne_none_int (gj I q (by simp))
  |str j=>obtain⟨t',rfl⟩:=ry;exact PySem.EqNone.ne_none_str (gj I q (by simp))
  |_=>exact absurd (show false=true from hs) Bool.false_ne_true
 |bl i=>
  cases rx;cases y with
  |non=>cases ry;exact PySem.EqNone.ne_bool_none (gj I q (by simp))
  |bl j=>cases ry;exact ne_bool (gj I q (congrArg not Ra))
  |str j=>obtain⟨t',rfl⟩:=ry;exact PySem.EqMixed.ne_bool_str (gj I q (by simp))
  |_=>exact absurd (show false=true from hs) Bool.false_ne_true
 |int i=>
  obtain⟨t,rfl⟩:=rx;cases y with
  |non=>cases ry;exact PySem.EqNone.ne_int_none (gj I q (by simp))
  |int j=>obtain⟨t',rfl⟩:=ry;exact ne_int (gj I q (congrArg not R9))
  |str j=>obtain⟨t',rfl⟩:=ry;exact PySem.EqMixed.ne_int_str (gj I q (by simp))
  |_=>exact absurd (show false=true from hs) Bool.false_ne_true
 |str i=>
  obtain⟨t,rfl⟩:=rx;cases y with
  |non=>cases ry;exact PySem.EqNone.ne_str_none (gj I q (by simp))
  |bl j=>cases ry;exact PySem.EqMixed.ne_str_bool (gj I q (by simp))
  |int j=>obtain⟨t',rfl⟩:=ry;exact PySem.EqMixed.ne_str_int (gj I q (by simp))
  |str j=>obtain⟨t',rfl⟩:=ry;exact ne_str (gj I q (congrArg not Rb))
  |_=>exact absurd (show false=true from hs) Bool.false_ne_true
 |jA i=>
  obtain⟨t,rfl⟩:=rx;cases y with
  |jA j=>obtain⟨t',rfl⟩:=ry;exact PySem.W.ne_bytes (gj I q (congrArg not Rf))
  |_=>exact absurd (show false=true from hs) Bool.false_ne_true
 |_=>cases y<;>exact absurd (show false=true from hs) Bool.false_ne_true
theorem vD:gC X (compareOp .Lt) (qW λi j=>.bl (decide (i<j))):=Em λ_ _ _ _ _ _ _ q=>lt_int q
theorem kB:gC X (compareOp .Gt) (qW λi j=>.bl (decide (j<i))):=Em λ_ _ _ _ _ _ _ q=>gt_int q
theorem Rg:gC X (compareOp .GtE) (qW λi j=>.bl (decide (j<=i))):=Em λ_ _ _ _ _ _ _ q=>ge_int q
theorem cP(b:Expr){op:CmpOp}(h:op≠.In:=by decide)(h2:op≠.NotIn:=by decide):behindInMarks op b=false:=by
 have e1:(op==CmpOp.In)=false:=by cases op<;>first|rfl|exact absurd rfl h
 have e2:(op==CmpOp.NotIn)=false:=by cases op<;>first|rfl|exact absurd rfl h2
 cases b<;>simp[behindInMarks,e1,e2]
theorem kD{op:CmpOp}{r:R2}(ho:gC X (compareOp op) r)(ha:PE X a ta)(hb:PE X b tb)(hm:behindInMarks op b=false):PE X (.Compare a [op] [b] pos) (qU r ta tb):=by
 intro pins s σ H Q I h;exact wpAny_Compare1 (El ha hb I h λv u s2 x y H2 I2 rx ry q=>ho pins s2 σ H2 x y v u Q I2 rx ry q) hm
def kH(t:TE):TT:=λσ H Q=>t σ H (Eb Q)
theorem kK{op:CmpOp}{r:R2}(ho:gC X (compareOp op) r)(ha:PE X a ta)(hb:PE X b tb)(hm:behindInMarks op b=false):PT X (.Compare a [op] [b] pos) (kH (qU r ta tb)):=by
 intro pins s σ H Q I h
 refine wpAny_isTrue_Compare1 (aX (ha pins s σ H _ I h) λv s1 ⟨x,H1,I1,r1,q1⟩=>aX (hb pins s1 σ H1 _ I1 q1) λu s2 ⟨y,H2,I2,r2,q2⟩=>
  aX (ho pins s2 σ H2 x y v u _ I2 r1 r2 q2) λc s3 ⟨z,H3,I3,r3,k,e,q3⟩=>?_) hm
 subst e;cases r3;exact wpAny_truthy_bool ⟨H3,I3,q3⟩
def Rh(K:Frag)(x:V)(H:Hp)(k:Bool):Prop:=
 match x with
 |.non=>k=false
 |.bl b=>k=b
 |.int i=>k=(i != 0)
 |.str y=>y.length<=sizeLine/\k=((y.length:Int) != 0)
 |.jA y=>y.size<=sizeLine/\k=((y.size:Int) != 0)
 |.ref p=>(∃xs,aG K H p xs/\k = !xs.isEmpty)\/(∃xs,a9 K H p xs/\k = !xs.isEmpty)\/∃kvs,H p=some (.dK kvs)/\k = !kvs.isEmpty
 |_=>False
theorem kQ{κ:Type}{kvs:List (κ×V)}{vs:List (κ×Value)}(r:KV kvs vs):(!vs.isEmpty) = !kvs.isEmpty:=by
 cases r<;>rfl
theorem Ri{xs:List V}{its:List Value}(r:Vals xs its):(!its.toArray.isEmpty) = !xs.isEmpty:=by
 cases r<;>simp
theorem yh:(sizeLine:Nat)<2 ^ 63:=by rw[sizeLine_eq];decide
theorem kX:kf X (λx H Q=>∃k,Rh X.K x H k/\Q k H):=by
 intro pins s σ H x v Q I rx h;obtain⟨k,e,q⟩:=h;have hl:=yh;have hs:sizeLine=16777216:=sizeLine_eq;cases x with
 |non=>
  cases rx;have e':k=false:=e;subst e';exact truthy_none ⟨H,I,q⟩
 |bl b=>
  cases rx;have e':k=b:=e;subst e';exact wpAny_truthy_bool ⟨H,I,q⟩
 |int i=>
  obtain⟨t,rfl⟩:=rx;have e':k=(i != 0):=e;subst e';exact PySem.P.truthy_int ⟨H,I,q⟩
 |str y=>
  obtain⟨t,rfl⟩:=rx;obtain⟨hy,e'⟩:y.length<=sizeLine/\k=((y.length:Int) != 0):=e;subst e';exact PySem.P.truthy_str (by omega) ⟨H,I.tok _,q⟩
 |jA y=>
  obtain⟨t,rfl⟩:=rx;obtain⟨hy,e'⟩:y.size<=sizeLine/\k=((y.size:Int) != 0):=e;subst e';exact PySem.W.truthy_bytes (by omega) ⟨H,I.tok _,q⟩
 |ref p=>
  cases rx;have e':(∃xs,aG X.K H p xs/\k = !xs.isEmpty)\/(∃xs,a9 X.K H p xs/\k = !xs.isEmpty)\/∃kvs,H p=some (.dK kvs)/\k = !kvs.isEmpty:=e;rcases e' with⟨xs,hx,e'⟩|⟨xs,hx,e'⟩|⟨kvs,hx,e'⟩
  ·subst e'
   obtain⟨its,r,pl,hz⟩:=I.list hx;have hlen:=r.length;exact wpAny_truthy_list pl.isList (by simp only[size_toArray];omega) ⟨H,I.tok _,by rw[Ri r];exact q⟩
  ·subst e'
   obtain⟨its,r,pl,hz⟩:=I.tuple hx;have hlen:=r.length;exact truthy_tuple pl (by simp only[size_toArray];omega) ⟨H,I.tok _,by rw[Ri r];exact q⟩
  ·subst e'
   obtain⟨hz,hS,vs,r,m⟩:kvs.length<=sizeLine/\(p==sysModules)=false/\∃vs,KV kvs vs/\s.heap.DictOf (eG X.prog X.w) p vs:=I.hok p _ hx;have hlen:kvs.length=vs.length:=Paired.length r;exact wpAny_truthy_dict hS m (by omega) ⟨H,I.tok _,by rw[kQ r];exact q⟩
 |_=>exact(show False from e).elim
theorem lf(ha:PE X a ta)(he:∀whole,isTrue a X.env whole=(do let v <-whole;standAt a.pos;holding [v] (truthy v))):
  PT X a (λσ H Q=>ta σ H λx H'=>∃k,Rh X.K x H' k/\Q k H'):=by
 intro pins s σ H Q I h;exact isTrue_plain (aX (ha pins s σ H _ I h) λv s1 ⟨x,H1,I1,r1,q1⟩=>kX pins s1 σ H1 x v Q I1 r1 q1) (he _)
theorem pQ:gC X (binaryOp .Add) (λx y H Q=>∃i j,x=.str i/\y=.str j/\i.length+j.length<=sizeLine/\Q (.str (i++j)) H):=by
 intro pins s σ H x y v u Q I rx ry h;obtain⟨i,j,rfl,rfl,hz,q⟩:=h;obtain⟨t,rfl⟩:=rx;obtain⟨t',rfl⟩:=ry;exact add_str (λt' tk=>⟨.str (i++j),H,I.tok _,⟨_,rfl⟩,q⟩) hz
theorem zl2{x:V}{us:List Value}(r:Vals [x] us):∃u,us=[u]/\RelV x u:=by
 cases r with
 |cons r1 r2=>cases r2;exact⟨_,rfl,r1⟩
theorem zn1{x y:V}{us:List Value}(r:Vals [x,y] us):∃u w',us=[u,w']/\RelV x u/\RelV y w':=by
 cases r with
 |cons r1 r2=>
  cases r2 with
  |cons r3 r4=>cases r4;exact⟨_,_,rfl,r1,r3⟩
theorem Rj(hc:X.calm=true):je X (.builtin "max") (λxs H Q=>∃i j,xs=[.int i,.int j]/\Q (.int (if j > i then j else i)) H):=by
 intro pins s σ H xs us Q I r h;obtain⟨i,j,rfl,q⟩:=h;obtain⟨u,w',rfl,⟨t,rfl⟩,⟨t',rfl⟩⟩:=zn1 r;refine max_two_ints (I.ok.hd hc) λh' tk k=>⟨_,H,I.kept k,?_,q⟩
 by_cases hj:j > i
 ·rw[if_pos hj,if_pos hj];exact⟨_,rfl⟩
 ·rw[if_neg hj,if_neg hj];exact⟨_,rfl⟩
theorem Rk(hc:X.calm=true):je X (.builtin "min") (λxs H Q=>∃i j,xs=[.int i,.int j]/\Q (.int (if j<i then j else i)) H):=by
 intro pins s σ H xs us Q I r h;obtain⟨i,j,rfl,q⟩:=h;obtain⟨u,w',rfl,⟨t,rfl⟩,⟨t',rfl⟩⟩:=zn1 r;refine min_two_ints (I.ok.hd hc) λh' tk k=>⟨_,H,I.kept k,?_,q⟩
 by_cases hj:j<i
 ·rw[if_pos hj,if_pos hj];exact⟨_,rfl⟩
 ·rw[if_neg hj,if_neg hj];exact⟨_,rfl⟩
theorem Rm:je X (.type "int") (λxs H Q=>(∃i,xs=[.int i]/\Q (.int i) H)\/∃k,xs=[.bl k]/\Q (.int (if k then 1 else 0)) H):=by
 intro pins s σ H xs us Q I r h;rcases h with⟨i,rfl,q⟩|⟨k,rfl,q⟩
 ·obtain⟨u,rfl,t,rfl⟩:=zl2 r
  exact call_int_int ⟨.int i,H,I,⟨_,rfl⟩,q⟩
 ·obtain⟨u,rfl,r1⟩:=zl2 r
  cases r1;exact call_int_bool ⟨.int (if k then 1 else 0),H,I.tok _,⟨_,rfl⟩,q⟩
theorem Rn:je X (.type "str") (λxs H Q=>∃i,xs=[.int i]/\i.natAbs.log2<1920/\Q (.str (toString i)) H):=by
 intro pins s σ H xs us Q I r h;obtain⟨i,rfl,hz,q⟩:=h;obtain⟨u,rfl,t,rfl⟩:=zl2 r;exact PySem.P.str_of_int hz ⟨.str _,H,I.tok _,⟨_,rfl⟩,q⟩
end
structure ud(h:Heap)(x dx C:Addr)(mA:eV):Prop where
 obj:h.get? x=some (instObj C dx)
 ns:h.Ns1 dx mA
 ne:dx≠x
theorem lh{h:Heap}{dx:Addr}{mA:eV}(n:h.Ns1 dx mA):∃od,h.get? dx=some od/\∀name,lookIn name od=some (mA name):=by
 obtain⟨o,es,ep,ho,hd,hk,_,hm⟩:=n;refine⟨o,ho,λname=>?_⟩;have e:=hm name;unfold nsFind findBy at e
 rw[<-Array.find?_toList] at e
 unfold lookIn;rw[hd];dsimp only
 split
 ·rename_i y q
  rw[q] at e
  exact congrArg some e
 ·rename_i q
  rw[q] at e
  have a:es.toList.any (·.refKey)=false:=by
   rw[List.any_eq_false];intro y hy;obtain⟨z,t,hkey⟩:=hk y (Array.mem_toList_iff.mp hy);simp[DictEntry.refKey,hkey]
  have a':¬es.toList.any (·.refKey)=true:=by rw[a];exact Bool.false_ne_true
  rw[if_neg a'];exact congrArg some e
theorem ud.look{h:Heap}{x dx C:Addr}{mA:eV}(I:ud h x dx C mA):∃od,PySem.W.InstAt h x (instObj C dx) C (some od)/\∀name,lookIn name od=some (mA name):=
 let ⟨od,ho,hl⟩:=lh I.ns
 ⟨od,⟨I.obj,rfl,rfl,ho⟩,hl⟩
section
variable {prog:Program}{w:World}{A:Around}{E:cJ}{s:Shared}{K:Frag}{x dx C f:Addr}{mA:eV}{name:Str}{v:Value}
theorem zn0{expr:Bool}{Q:cJ}(X:K.In s.heap)(I:ud s.heap x dx C mA)(hg:plainGet K C name=true)(hh:hasDictIn K C=true)
  (ha:findIn K (.ref C) name=some none) (hv:mA name=some v) (hv':handedIn v=true) (h:Q v { s with toks:=s.toks+1 }):
  wpAny (model prog w) A (getAttr (.ref x) name expr) Q E s:=by
 obtain⟨od,J,hl⟩:=I.look;exact PySem.W.get_value X J (plainGet_of hg).1 (PySem.W.findObj_own hh ha rfl (by rw[hl,hv])) hv' h
theorem lj{pl:Sem Bool}{Q:Value×List Value->Shared->Prop}(X:K.In s.heap)(I:ud s.heap x dx C mA)(hg:plainGet K C name=true)
  (hf:findIn K (.ref C) name=some (some (.ref f))) (ht:isFn K (.ref f)=true) (hv:mA name=none) (h:Q (.ref f,[.ref x]) s):
  wpAny (model prog w) A (getMethod (.ref x) name pl) Q E s:=by
 obtain⟨od,J,hl⟩:=I.look;exact PySem.W.method_fn X J (plainGet_of hg).1 (plainGet_of hg).2 hf (beq_iff_eq.mp ht) (by show(lookIn name od).map (·.isSome)=some false;rw[hl,hv];rfl) h
theorem ll{ns:List Str}{Q:Unit->Shared->Prop}(X:K.In s.heap)(I:ud s.heap x dx C mA)
  (hs:findIn K (.ref C) "__setattr__"=some (some (.builtin "object.__setattr__"))) (hp:plainOver K C=true) (ht:takerIn K C name=some none) (hh:hasDictIn K C=true)
  (hw:PySem.Within mA ns) (hsz:ns.length<=sizeLine)
  (h:∀h',ud h' x dx C (λy=>if y=name then some v else mA y)->Heap.SameBut dx s.heap h'->Q () { s with heap:=h',toks:=s.toks+2 }):
  wpAny (model prog w) A (setAttr (.ref x) name v) Q E s:=by
 obtain⟨od,J,hl⟩:=I.look;refine PySem.W.set_plain X J hs (PySem.W.osa_open (s:={ s with toks:=s.toks+1 }) (r:=none) X J hp ht λb=>?_);obtain⟨cd,hc,hd'⟩:=PySem.W.any_some hh;have hx:s.heap.get? x=some ⟨.ref C,some dx,.plain, #[]⟩:=I.obj;refine wpAny_bind (wpAny_pure (wpAny_bind (wpAny_bind (wpAny_loadPart hx (wpAny_bind (PySem.W.Looks.here (s:={ s with toks:=s.toks+1 }) (PySem.W.looks_clsIn X hc) ?_))))));rw[hd'];refine wpAny_pure (a:=some dx) (wpAny_bind (wpAny_pure (wpAny_bind ?_)));refine wpAny_nsSet1 (s:={ s with toks:=s.toks+1 }) I.ns λh' hn2 hs2=>?_
 obtain⟨oD,esD,epD,hoD,hdD,hcD⟩:=hn2.count (PySem.Within.cons name v hw);refine wpAny_bind (wpAny_lookBehind hoD (by rw[hdD];exact pastItsLine_dict (le_trans hcD (by rw[length_cons];omega))) ?_);exact wpAny_pure (h _ ⟨(hs2.2 _ (Ne.symm I.ne)).trans I.obj,hn2,I.ne⟩ hs2)
theorem lr{R:Result->Shared->Prop}{vs:List Value}{kw:List (Str×Value)}(X:K.In s.heap)(hm:makesIn K C=true)
  (hi:findIn K (.ref C) "__init__"=some (some (.ref f))) (hf:PySem.W.typeIn K (.ref f)=some (.type "function"))
  (h:codeAny (model prog w) (A.under (.builtin "type.__call__" ⟨.ref C::vs,kw⟩)) (.call (.ref f) ⟨.ref (s.heap.objs.size+1)::vs,kw⟩) (PySem.W.InitBack (s.heap.objs.size+1) R)
   { s with heap:=(s.heap.push emptyDict).push (instObj C s.heap.objs.size) }):
  codeAny (model prog w) A (.call (.ref C) ⟨vs,kw⟩) R s:=by
 obtain⟨hh,g,d,t,os⟩:=s;exact PySem.W.make_core (PySem.W.makes_of X hm) (PySem.W.looks_findIn X hi) (λself=>PySem.W.bind_fn X self hf) (.inl rfl) h
end
noncomputable def eY(f:Str)(v:V):List (Str×V)->List (Str×V)
 |[]=>[(f,v)]
 |(g,x)::r=>if g=f then(g,v)::r else(g,x)::eY f v r
theorem uf(f g:Str)(v:V):∀fs:List (Str×V),(eY f v fs).lookup g=if g=f then some v else fs.lookup g
 |[]=>by
  show List.lookup g [(f,v)]=_
  by_cases h:g=f
  ·have hb:(g==f)=true:=beq_iff_eq.mpr h
   simp only[List.lookup,hb,if_pos h]
  ·have hb:(g==f)=false:=beq_eq_false_iff_ne.mpr h
   simp only[List.lookup,hb,if_neg h]
 |(k,x)::r=>by
  have ih:=uf f g v r;rw[show eY f v ((k,x)::r)=(if k=f then(k,v)::r else(k,x)::eY f v r) from rfl]
  by_cases hk:k=f
  ·rw[if_pos hk]
   by_cases h:g=k
   ·have hb:(g==k)=true:=beq_iff_eq.mpr h
    simp only[List.lookup,hb,if_pos (h.trans hk)]
   ·have hb:(g==k)=false:=beq_eq_false_iff_ne.mpr h
    simp only[List.lookup,hb,if_neg (λe:g=f=>h (e.trans hk.symm))]
  ·rw[if_neg hk]
   by_cases h:g=k
   ·have hb:(g==k)=true:=beq_iff_eq.mpr h
    simp only[List.lookup,hb,if_neg (λe:g=f=>hk (h.symm.trans e))]
   ·have hb:(g==k)=false:=beq_eq_false_iff_ne.mpr h
    simp only[List.lookup,hb];exact ih
theorem Eo(f:Str)(v:V):∀fs:List (Str×V),f∈(eY f v fs).map (·.1)/\∀g,g∈fs.map (·.1)->g∈(eY f v fs).map (·.1)
 |[]=>⟨by simp[eY],λg h=>by simp at h⟩
 |(k,x)::r=>by
  obtain⟨i1,i2⟩:=Eo f v r;rw[show eY f v ((k,x)::r)=(if k=f then(k,v)::r else(k,x)::eY f v r) from rfl]
  by_cases hk:k=f
  ·rw[if_pos hk]
   subst hk;exact⟨by simp,λg h=>by simpa using h⟩
  ·rw[if_neg hk]
   refine⟨?_,λg h=>?_⟩
   ·rw[map_cons]
    exact mem_cons_of_mem _ i1
   ·rw[map_cons] at h ⊢
    rcases List.mem_cons.mp h with e|e
    ·exact List.mem_cons.mpr (.inl e)
    ·exact mem_cons_of_mem _ (i2 g e)
theorem Ro(f:Str)(v:V):∀fs:List (Str×V),(eY f v fs).length<=fs.length+1
 |[]=>by simp[eY]
 |(k,x)::r=>by
  have ih:=Ro f v r;rw[show eY f v ((k,x)::r)=(if k=f then(k,v)::r else(k,x)::eY f v r) from rfl]
  by_cases hk:k=f
  ·rw[if_pos hk,length_cons,length_cons];omega
  ·rw[if_neg hk,length_cons,length_cons];omega
theorem jr.some_of{v:V}{o:Option Value}(r:jr (some v) o):∃u,o=some u/\RelV v u:=by
 cases o with
 |none=>exact(show False from r).elim
 |some u=>exact⟨u,rfl,r⟩
theorem jr.none_of{o:Option Value}(r:jr none o):o=none:=by
 cases o with
 |none=>rfl
 |some u=>exact(show False from r).elim
theorem lx{v:V}{u:Value}(r:RelV v u):handedIn u=true:=by
 cases v with
 |non=>cases(show u=Value.none from r);rfl
 |bl b=>cases(show u=Value.bool b from r);rfl
 |int i=>obtain⟨t,e⟩:=(show ∃t,u=Value.int i t from r);cases e;rfl
 |str x=>obtain⟨t,e⟩:=(show ∃t,u=Value.str x t from r);cases e;rfl
 |jA b=>obtain⟨t,e⟩:=(show ∃t,u=Value.bytes b t from r);cases e;rfl
 |flt b=>obtain⟨t,e⟩:=(show ∃t,u=Value.float b t from r);cases e;rfl
 |ref a=>cases(show u=Value.ref a from r);rfl
 |ty n=>cases(show u=Value.type n from r);rfl
section
variable {P:Program}{w:World}{H H':Hp}{h h':Heap}{a C dx:Addr}{fs fs':List (Str×V)}
theorem Ep(hok:eX P w H h)(e:H a=some (.ins C dx fs)):∃mA,ud h a dx C mA/\(∀f,jr (fs.lookup f) (mA f))/\PySem.Within mA (fs.map (·.1))/\fs.length<=1000/\H dx=some (.own a):=by
 obtain⟨d,z,ne,ob,mA,n,r,q⟩:=(show gB P w H h a (.ins C dx fs) from hok a _ e);exact⟨mA,⟨ob,n,ne⟩,r,q,z,d⟩
end
structure Cls(K:Frag)(C:Addr):Prop where
 pg:plainGet K C Str.empty=true
 hd:hasDictIn K C=true
 po:plainOver K C=true
 sa:findIn K (.ref C) "__setattr__"=some (some (.builtin "object.__setattr__"))
theorem Cls.get{K:Frag}{C:Addr}(c:Cls K C)(f:Str):plainGet K C f=true:=c.pg
def jF(K:Frag)(C:Addr)(f:Str):Prop:=findIn K (.ref C) f=some none
theorem jF.taker{K:Frag}{C:Addr}{f:Str}(n:jF K C f):takerIn K C f=some none:=by
 unfold takerIn;rw[show findIn K (.ref C) f=some none from n];rfl
structure Meth(K:Frag)(C:Addr)(m:Str)(f:Addr):Prop where
 at_:findIn K (.ref C) m=some (some (.ref f))
 fn:isFn K (.ref f)=true
 kp:keepIn K (.ref f)=true
section
variable {X:Cx}{pins:c7}{σ:St}{H:Hp}{s:Shared}{a C dx:Addr}{fs:List (Str×V)}{f:Str}{v:V}{A:Around}{E:cJ}
theorem Rp{b:Bool}{Q:cJ}(I:Inv X pins σ H s)(e:H a=some (.ins C dx fs))(c:Cls X.K C)(n:jF X.K C f)(l:fs.lookup f=some v)
  (h:∀u s',Inv X pins σ H s'->RelV v u->Q u s'):wpAny (model X.prog X.w) A (getAttr (.ref a) f b) Q E s:=by
 obtain⟨mA,O,r,_,_,_⟩:=Ep I.hok e;obtain⟨u,hu,ru⟩:=jr.some_of (v:=v) (o:=mA f) (by rw[<-l];exact r f);exact zn0 I.jW O (c.get f) c.hd n hu (lx ru) (h u _ (I.tok _) ru)
theorem lz{m:Str}{g:Addr}{pl:Sem Bool}{Q:Value×List Value->Shared->Prop}(I:Inv X pins σ H s)(e:H a=some (.ins C dx fs))(c:Cls X.K C)(k:Meth X.K C m g)(l:fs.lookup m=none)
  (h:Q (.ref g,[.ref a]) s):wpAny (model X.prog X.w) A (getMethod (.ref a) m pl) Q E s:=by
 obtain⟨mA,O,r,_,_,_⟩:=Ep I.hok e;have hn:mA m=none:=jr.none_of (by rw[<-l];exact r m);exact lj I.jW O (c.get m) k.at_ k.fn hn h
theorem Rq{y:V}{u:Value}{Q:Unit->Shared->Prop}(I:Inv X pins σ H s)(e:H a=some (.ins C dx fs))(c:Cls X.K C)(n:jF X.K C f)(hl:fs.length<1000)(ry:RelV y u)
  (h:∀s',Inv X pins σ (upd H a (.ins C dx (eY f y fs))) s'->Q () s'):wpAny (model X.prog X.w) A (setAttr (.ref a) f u) Q E s:=by
 obtain⟨mA,O,r,wi,_,ho⟩:=Ep I.hok e;have hz:(fs.map (·.1)).length<=sizeLine:=by rw[length_map,sizeLine_eq];omega
 refine ll I.jW O c.sa c.po n.taker c.hd wi hz λh' O' sb=>h _ ?_
 have hd:∃o,h'.get? dx=some o:=let ⟨o,_,_,e',_⟩:=O'.ns;⟨o,e'⟩;refine I.write (x:=a) (e:=dx) (by rw[e];exact True.intro) (.inr ho) (λb q hb z=>(sb.2 b hb).trans z) hd ?_;refine⟨by rw[aJ O.ne];exact ho,?_,O.ne,O'.obj,_,O'.ns,λg=>?_,λg hg=>?_⟩
 ·have:=Ro f y fs;omega
 ·show jr ((eY f y fs).lookup g) (if g=f then some u else mA g)
  rw[uf]
  by_cases q:g=f
  ·rw[if_pos q,if_pos q];exact ry
  ·rw[if_neg q,if_neg q];exact r g
 ·by_cases q:g=f
  ·rw[q];exact(Eo f y fs).1
  ·refine(Eo f y fs).2 g (wi g λz=>hg ?_)
   show(if g=f then some u else mA g)=none;rw[if_neg q];exact z
theorem Inv.made(I:Inv X pins σ H s):Inv X pins σ (upd (upd H s.heap.objs.size (.own (s.heap.objs.size+1))) (s.heap.objs.size+1) (.ins C s.heap.objs.size []))
  { s with heap:=(s.heap.push emptyDict).push (instObj C s.heap.objs.size) }:=by
 have e1:(s.heap.push emptyDict).get? s.heap.objs.size=some emptyDict:=Heap.get?_push_size s.heap rfl;have e2:((s.heap.push emptyDict).push (instObj C s.heap.objs.size)).get? (s.heap.objs.size+1)=some (instObj C s.heap.objs.size):=by
  have:=Heap.get?_push_size (s.heap.push emptyDict) (o:=instObj C s.heap.objs.size) rfl
  rwa [Heap.size_push] at this
 have e3:(s.heap.push emptyDict).Ns s.heap.objs.size (λ_=>none):=⟨emptyDict, #[],_,e1,rfl,(λe he=>absurd he (by simp)),λ_=>rfl⟩;have I1:=I.laid (a:=s.heap.objs.size) (o:=.own (s.heap.objs.size+1)) (h':=s.heap.push emptyDict) (t':=s.toks) (λb u q=>Heap.get?_push_of_some _ q) (le_refl _) ⟨_,e1⟩;refine I1.laid (a:=s.heap.objs.size+1) (o:=.ins C s.heap.objs.size []) (t':=s.toks) (λb u q=>Heap.get?_push_of_some _ q) (le_of_eq (Heap.size_push _ _)) ?_;have ne:s.heap.objs.size≠s.heap.objs.size+1:=ne_of_lt (lt_succ_self _);refine⟨by rw[aJ ne,a8],zero_le _,ne,e2,λ_=>none,(Heap.Ns1.of_empty e3).at λo q=>Heap.get?_push_of_some _ q,λ_=>True.intro,λy hy=>absurd rfl hy⟩
theorem lI{prog:Program}{w:World}{env:Env}{e:Expr}{f:Str}{pos:Pos}{s:Shared}{Q:cJ}(hb:attributeBase e f env (eval e env)=eval e env)
  (h:wpAny (model prog w) A (eval e env) (λo s₁=>wpAny (model prog w) A (getAttr o f true) Q E s₁) E s):wpAny (model prog w) A (eval (.Attribute e f pos) env) Q E s:=
 Attribute_any_ h (by rw[arm_eval_Attribute,hb])
end
inductive Rr(K:Frag)(f:Str)(Q:VK)(x:V)(H:Hp):Prop
 |mk (a C dx:Addr) (fs:List (Str×V)) (v:V) (e:x=.ref a) (h:H a=some (.ins C dx fs)) (c:Cls K C) (n:jF K C f) (l:fs.lookup f=some v) (q:Q v H):Rr K f Q x H
def Rt(K:Frag)(ta:TE)(f:Str):TE:=λσ H Q=>ta σ H (Rr K f Q)
def lL(K:Frag)(ta tv:TE)(f:Str):TS:=λD σ H=>tv σ H λy H1=>ta σ H1 λx H2=>∃a C dx fs,x=.ref a/\H2 a=some (.ins C dx fs)/\Cls K C/\jF K C f/\fs.length<1000/\
 D.nx σ (upd H2 a (.ins C dx (eY f y fs)))
def Ru(X:Cx)(op:Operator)(rd:V->V->Hp->VK->Prop):Prop:=
 ∀(pins:c7) (s:Shared) (σ:St) (H:Hp) (x y:V) (u v:Value) (Q:VK),Inv X pins σ H s->RelV x u->RelV y v->rd x y H Q->wpAny (model X.prog X.w) X.A (inplaceOp op u v) (EP X pins σ Q) X.xe s
def lP(K:Frag)(ta tv:TE)(rd:V->V->Hp->VK->Prop)(f:Str):TS:=λD σ H=>ta σ H λx H1=>∃a C dx fs v,x=.ref a/\H1 a=some (.ins C dx fs)/\Cls K C/\jF K C f/\fs.lookup f=some v/\
 tv σ H1 λy H2=>rd v y H2 λz H3=>∃ug fs',H3 a=some (.ins C ug fs')/\fs'.length<1000/\D.nx σ (upd H3 a (.ins C ug (eY f z fs')))
section
variable {X:Cx}{o e value:Expr}{f:Str}{pos pos' tpos:Pos}{ta tv:TE}
theorem lS(he:PE X e ta)(hb:attributeBase e f X.env (eval e X.env)=eval e X.env):PE X (.Attribute e f pos) (Rt X.K ta f):=by
 intro pins s σ H Q I h;refine lI hb (aX (he pins s σ H _ I h) λu s1 ⟨x,H1,I1,rx,a,C,dx,fs,v,ex,ea,c,n,l,q⟩=>?_);subst ex;obtain rfl:u=Value.ref a:=rx;exact Rp I1 ea c n l λu' s2 I2 ru=>⟨v,H1,I2,ru,q⟩
theorem me(ha:PE X o ta)(hv:PE X value tv)(hs:swapsWith value (some (.Attribute o f pos')) pos.line X.env=pure false):PS X (.Assign [.Attribute o f pos'] value pos) (lL X.K ta tv f):=by
 intro pins s σ H D I h;refine plainObj_wpAny_Assign_Attribute (aX (hv pins s σ H _ I h) λu s1 ⟨y,H1,I1,ry,q⟩=>aX (ha pins s1 σ H1 _ I1 q) λov s2 ⟨x,H2,I2,rx,a,C,dx,fs,ex,ea,c,n,l,q2⟩=>?_) hs;subst ex;obtain rfl:ov=Value.ref a:=rx;exact Rq I2 ea c n l ry λs3 I3=>⟨σ,_,I3,q2⟩
theorem mh{op:Operator}{rd:V->V->Hp->VK->Prop}(ha:PE X o ta)(hv:PE X value tv)(hop:Ru X op rd):PS X (.AugAssign (.Attribute o f tpos) op value pos) (lP X.K ta tv rd f):=by
 intro pins s σ H D I h;refine wpAny_AugAssign_AttributeAny (aX (ha pins s σ H _ I h) λov s1 ⟨x,H1,I1,rx,a,C,dx,fs,v,ex,ea,c,n,l,q⟩=>?_);subst ex;obtain rfl:ov=Value.ref a:=rx;refine Rp I1 ea c n l λu s2 I2 ru=>aX (hv pins s2 σ H1 _ I2 q) λw3 s3 ⟨y,H2,I3,ry,q3⟩=>aX (hop pins s3 σ H2 v y u w3 _ I3 ru ry q3) λw4 s4 ⟨z,H3,I4,rz,ug,fs',mn,l',q4⟩=>?_
 exact Rq I4 mn c n l' rz λs5 I5=>⟨σ,_,I5,q4⟩
def mv:V->V->Hp->VK->Prop:=λx y H Q=>∃i j,x=.int i/\y=.int j/\Q (.int (i+j)) H
theorem mw:Ru X .Add mv:=by
 rintro pins s σ H x y u v Q I rx ry ⟨i,j,rfl,rfl,q⟩
 obtain⟨t,rfl⟩:=(show ∃t,u=Value.int i t from rx);obtain⟨t',rfl⟩:=(show ∃t',v=Value.int j t' from ry);exact PyProof.Rows.iadd_int ⟨.int (i+j),H,I.tok _,⟨_,rfl⟩,q⟩
end
structure cZ(k:Nat)(A:Around):Prop where
 hd:A.handled=none
 dp:A.depth+3*k+5<recursionLimit
 un:A.units+16*k+200<cLine
theorem cZ.mono{j k:Nat}{A:Around}(r:cZ k A)(h:j<=k):cZ j A:=⟨r.hd,by have:=r.dp;omega,by have:=r.un;omega⟩
theorem cZ.deeper{k:Nat}{A:Around}(r:cZ (k+1) A)(env:Env):cZ k (A.deeper env):=
 ⟨r.hd,by have:=r.dp;show A.depth+1+3*k+5<_;omega,by have:=r.un;show A.units+3+16*k+200<_;omega⟩
theorem mx{A:Around}{C:Addr}{us:List Value}{kw:List (Str×Value)}:(A.under (.builtin "type.__call__" ⟨.ref C::us,kw⟩)).depth=A.depth+1:=by
 first|rfl|simp[Around.under,Code.weight,Code.isCreation,Code.isGuard,Code.isCaller,Code.frames,Code.isFrame,guardIds]
theorem my{A:Around}{C:Addr}{us:List Value}{kw:List (Str×Value)}:(A.under (.builtin "type.__call__" ⟨.ref C::us,kw⟩)).units=A.units+1:=by
 first|rfl|simp[Around.under,Code.cUnits,Code.frames,Code.isFrame]
theorem cZ.make{k:Nat}{A:Around}(r:cZ (k+1) A)(C:Addr)(us:List Value)(kw:List (Str×Value)):cZ k (A.under (.builtin "type.__call__" ⟨.ref C::us,kw⟩)):=
 ⟨r.hd,by have:=r.dp;rw[mx];omega,by have:=r.un;rw[my];omega⟩
theorem cZ.depth{k:Nat}{A:Around}(r:cZ k A):A.depth<recursionLimit:=by have:=r.dp;omega
theorem cZ.units{k:Nat}{A:Around}(r:cZ k A):A.units+64<cLine:=by have:=r.un;omega
def oK:TA:=λ_ H Q=>Q [] H
def iz(ta:TE)(tr:TA):TA:=λσ H Q=>ta σ H λx H1=>tr σ H1 λxs H2=>Q (x::xs) H2
section
variable {X:Cx}{e:Expr}{es:List Expr}{te:TE}{t:TA}{pos:Pos}
theorem mI:PA X [] oK:=λ_ _ _ _ H Q I h=>Calls.spliced_nil ⟨[],H,I,.nil,h⟩
theorem pR(ha:PE X e te)(hr:PA X es t)(hs:starEach (e::es) X.env=(false,eval e X.env)::starEach es X.env:=by rfl):PA X (e::es) (iz te t):=by
 intro pos pins s σ H Q I h;rw[hs];show wpAny _ _ (spliced ((false,eval e X.env)::backTo pos (starEach es X.env))) _ _ s;refine Calls.spliced_cons (aX (ha pins s σ H _ I h) λu s1 ⟨x,H1,I1,r1,q1⟩=>?_);exact aX (hr pos pins s1 σ H1 _ I1 q1) λus s2 ⟨xs,H2,I2,r2,q2⟩=>⟨x::xs,H2,I2,.cons r1 r2,q2⟩
inductive rNew(o:List V->HO)(Q:VK)(xs:List V)(H:Hp):Prop
 |mk (l:xs.length<=sizeLine) (q:∀p,H p=none->Q (.ref p) (upd H p (o xs))):rNew o Q xs H
def vG(t:TA):TE:=λσ H Q=>t σ H (rNew .tup Q)
def Er(t:TA):TE:=λσ H Q=>t σ H (rNew .lst Q)
theorem ng{x1}(h:PA X es t):PE X (.Tuple es x1 pos) (vG t):=by
 intro pins s σ H Q I hq;refine wpAny_Tuple_spliced (aX (h pos pins s σ H _ I hq) λus s1 ⟨xs,H1,I1,r,z,q⟩=>⟨by rw[<-r.length];exact z,?_⟩);have hf:H1 s1.heap.objs.size=none:=I1.hok.fresh (le_refl _);refine⟨.ref s1.heap.objs.size,upd H1 s1.heap.objs.size (.tup xs),I1.laid (t':=s1.toks) (λb u e=>Heap.get?_push_of_some _ e) (le_refl _) ?_,rfl,q _ hf⟩;exact⟨z,us,r,⟨_,Heap.get?_push_size _ rfl,rfl,_,rfl⟩⟩
theorem nh(h:PA X es t):PE X (.List es pos) (Er t):=by
 intro pins s σ H Q I hq;refine wpAny_List_spliced (aX (h pos pins s σ H _ I hq) λus s1 ⟨xs,H1,I1,r,z,q⟩=>⟨by rw[<-r.length];exact z,?_⟩);have hf:H1 s1.heap.objs.size=none:=I1.hok.fresh (le_refl _);refine⟨.ref s1.heap.objs.size,upd H1 s1.heap.objs.size (.lst xs),I1.laid (t':=s1.toks) (λb u e=>Heap.get?_push_of_some _ e) (le_refl _) ?_,rfl,q _ hf⟩;exact⟨z,us,0,r,Heap.get?_push_size _ rfl⟩
end
abbrev Sp:=List V->Hp->VK->XK->Prop
abbrev jt:=List Env->Hp->Shared->XK->Value->Shared->Prop
structure uh(P:Program)(w:World)(K:Frag)(mg:eV)(base:Heap)(A:Around)(outer:List Env)(s:Shared)(H:Hp):Prop where
 frames:A.frames=some outer
 mod:Mod K mg base
 bs:∀b o,base.get? b=some o->s.heap.get? b=some o/\H b=none
 oJ:base.objs.size<=s.heap.objs.size
 mV:s.heap.FunFrames base outer
 tZ:∀b∈frs outer,H b=none
 hok:eX P w H s.heap
 bare:AllBare s.gens
def CE(outer:List Env)(P:Program)(w:World)(H:Hp)(s:Shared)(Q:VK)(u:Value)(s':Shared):Prop:=
 ∃v H',s'.os=s.os/\AllBare s'.gens/\Un (frs outer) [] H H' s.heap s'.heap/\eX P w H' s'.heap/\RelV v u/\Q v H'
def CR(CX:jt)(outer:List Env)(P:Program)(w:World)(H:Hp)(s:Shared)(Q:VK)(E:XK)(r:Result)(s':Shared):Prop:=
 match r with
 |.ok (.ret u)=>CE outer P w H s Q u s'
 |.ok _=>False
 |.error e=>CX outer H s E e s'
structure aH(P:Program)(w:World)(K:Frag)(mg:eV)(base:Heap)(CX:jt)(k:Nat)(f:Addr)(fd:FuncData)(ps:List Str)(sp:Sp):Prop where
 len:∀vs H Q E,sp vs H Q E->vs.length=ps.length
 run:∀(A:Around) (outer:List Env) (s:Shared) (H:Hp) (args:Args) (us:List Value) (vs:List V) (Q:VK) (E:XK),cZ k A->uh P w K mg base A outer s H->BindsTo s fd args (ps.zip us)->Vals vs us->sp vs H Q E->
  codeAny (model P w) A (.call (.ref f) args) (CR CX outer P w H s Q E) s
theorem aH.mono{P:Program}{w:World}{K:Frag}{mg:eV}{base:Heap}{CX:jt}{j k:Nat}{f:Addr}{fd:FuncData}{ps:List Str}{sp:Sp}(F:aH P w K mg base CX j f fd ps sp)(h:j<=k):
  aH P w K mg base CX k f fd ps sp:=⟨F.len,λA outer s H args us vs Q E hr=>F.run A outer s H args us vs Q E (hr.mono h)⟩
theorem uh.make{P:Program}{w:World}{K:Frag}{mg:eV}{base:Heap}{A:Around}{outer:List Env}{s:Shared}{H:Hp}(e:uh P w K mg base A outer s H)(C:Addr)(us:List Value)(kw:List (Str×Value)):
  uh P w K mg base (A.under (.builtin "type.__call__" ⟨.ref C::us,kw⟩)) outer s H:=⟨by first|exact e.frames|(simpa [Around.under,Code.envs,Code.isFrame,pushEnvs] using e.frames),e.mod,e.bs,e.oJ,e.mV,e.tZ,e.hok,e.bare⟩
section
variable {X:Cx}{pins:c7}{σ:St}{H:Hp}{s s':Shared}
theorem Inv.env0(I:Inv X pins σ H s):uh X.prog X.w X.K X.mg X.base X.A X.stack s H:=
 ⟨I.ok.frames,I.ok.mod,I.bs,le_trans I.ok.oJ I.sz,I.stack,I.E9,I.hok,I.bare⟩
theorem Inv.after{Q:VK}{u:Value}(I:Inv X pins σ H s)(h:CE X.stack X.prog X.w H s Q u s'):EP X pins σ Q u s':=by
 obtain⟨v,H',os,bare,un,hok,r,q⟩:=h;obtain⟨hh,g,d,t,os'⟩:=s';obtain rfl:os'=s.os:=os;exact⟨v,H',I.call (h':=hh) (g':=g) (d':=d) (t':=t) (ch:=[]) un hok bare (λb z=>absurd z (by simp)),r,q⟩
end
def Rv(sp:Sp)(iR:List V)(E:XK)(t:TA):TE:=λσ H Q=>t σ H λvs H1=>sp (vs++iR) H1 Q E
inductive Rw(C:Addr)(m:Str)(x:V)(H:Hp)(q:Prop):Prop
 |mk (a dx:Addr) (fs:List (Str×V)) (e:x=.ref a) (h:H a=some (.ins C dx fs)) (l:fs.lookup m=none) (k:q):Rw C m x H q
def Et(C:Addr)(m:Str)(sp:Sp)(iR:List V)(E:XK)(ta:TE)(t:TA):TE:=λσ H Q=>ta σ H λx H1=>Rw C m x H1 (t σ H1 λvs H2=>sp (x::(vs++iR)) H2 Q E)
def Rx(C:Addr)(sp:Sp)(iR:List V)(E:XK)(t:TA):TE:=λσ H Q=>t σ H λvs H1=>∀x dx,H1 x=none->H1 dx=none->dx≠x->
 sp (.ref x::(vs++iR)) (upd (upd H1 dx (.own x)) x (.ins C dx [])) (λv H2=>v=.non/\Q (.ref x) H2) E
def Binds(K:Frag)(fd:FuncData)(ps:List Str)(ds:List Value):Prop:=
 ∀(s:Shared) (us:List Value),K.In s.heap->(us++ds).length=ps.length->BindsTo s fd ⟨us,[]⟩ (ps.zip (us++ds))
theorem Binds.all{K:Frag}{fd:FuncData}{ps:List Str}(h:∀us:List Value,us.length=ps.length->bindArgs fd ⟨us,[]⟩=pure (ps.zip us)):Binds K fd ps []:=λs us _ hl=>by
 rw[append_nil] at hl ⊢
 exact .of_eq (h us hl)
def Passes(CX:jt)(X:Cx)(E:XK):Prop:=∀(pins:c7) (σ:St) (H:Hp) (s:Shared) (e:Value) (s':Shared),Inv X pins σ H s->CX X.stack H s E e s'->X.xe e s'
section
variable {X:Cx}{CX:jt}{k:Nat}{f C:Addr}{fd:FuncData}{ps:List Str}{sp:Sp}{iR:List V}{ds:List Value}{E:XK}{x m:Str}{p pos apos:Pos}{e o:Expr}{es:List Expr}{ta:TE}{t:TA}
theorem Ry{pins:c7}{σ:St}{H:Hp}{s:Shared}{Q:VK}{us:List Value}{vs:List V}(F:aH X.prog X.w X.K X.mg X.base CX k f fd ps sp)(hr:cZ k X.A)(hb:Binds X.K fd ps ds)(hd:Vals iR ds)(hx:Passes CX X E)
  (I:Inv X pins σ H s) (r:Vals vs us) (h:sp (vs++iR) H Q E):wpAny (model X.prog X.w) X.A (call (.ref f) us) (EP X pins σ Q) X.xe s:=by
 have r2:Vals (vs++iR) (us++ds):=r.append hd;have hl:(us++ds).length=ps.length:=by rw[<-r2.length];exact F.len _ _ _ _ h
 refine wpAny_call (codeAny_mono (F.run X.A X.stack s H ⟨us,[]⟩ (us++ds) (vs++iR) Q E hr I.env0 (hb s us I.jW hl) r2 h) λr s' hq=>?_);cases r with
 |error e=>exact hx pins σ H s e s' I hq
 |ok fl=>
  cases fl with
  |ret u=>exact I.after hq
  |next=>exact False.elim hq
  |brk=>exact False.elim hq
  |cont=>exact False.elim hq
theorem nk(F:aH X.prog X.w X.K X.mg X.base CX k f fd ps sp)(hr:cZ k X.A)(hg:Gl X x)(hm:X.mg x=some (.ref f))(hk:keepIn X.K (.ref f)=true)(hb:Binds X.K fd ps ds)(hd:Vals iR ds)(hx:Passes CX X E)
  (ha:PA X (e::es) t) (hdb:(x==("__debug__":Str))=false:=by decide) (he:starEach (e::es) X.env=(false,eval e X.env)::starEach es X.env:=by rfl) (hpl:(backTo pos (starEach es X.env)).any (·.1)=false:=by rfl):
  PE X (.Call (.Name x p) (e::es) [] pos) (Rv sp iR E t):=by
 intro pins s σ H Q I h;refine wpAny_Call_Name_kw (xZ I hg hm ?_ hdb);refine callWith_K (h₀:=X.base) I.ok.mod.vB hk (aX (ha pos pins s σ H _ I h) λus s1 ⟨vs,H1,I1,r,q⟩=>⟨I1.jW,?_⟩) he hpl;exact Ry F hr hb hd hx I1 r q
theorem nr{pl:Sem Bool}(he:PE X o ta)(c:Cls X.K C)(hm:Meth X.K C m f)(F:aH X.prog X.w X.K X.mg X.base CX k f fd ps sp)(hr:cZ k X.A)(hb:Binds X.K fd ps ds)(hd:Vals iR ds)(hx:Passes CX X E)(ha:PA X (e::es) t)
  (hst:starEach (e::es) X.env=(false,eval e X.env)::starEach es X.env:=by rfl) (hpl:(backTo pos (starEach es X.env)).any (·.1)=false:=by rfl)
  (ht:eval (.Call (.Attribute o m apos) (e::es) [] pos) X.env=(do
   let ov <-eval o X.env
   standAt apos.atName
   let (f,first) <-holding [ov] (getMethod ov m pl)
   callWith pos f first (backTo pos (starEach (e::es) X.env)) (backToKw pos (keywordEach [] X.env))):=by rfl):
  PE X (.Call (.Attribute o m apos) (e::es) [] pos) (Et C m sp iR E ta t):=by
 intro pins s σ H Q I h;refine PySem.W.methodCall_KW (pl:=pl) (aX (he pins s σ H _ I h) λu s1 ⟨x,H1,I1,rx,a,dx,fs,ex,ea,l,q⟩=>?_) ht;subst ex;obtain rfl:u=Value.ref a:=rx;refine lz I1 ea c hm l ?_;refine callWith_K (first:=[.ref a]) (h₀:=X.base) I.ok.mod.vB hm.kp (aX (ha pos pins s1 σ H1 _ I1 q) λus s2 ⟨vs,H2,I2,r,q2⟩=>⟨I2.jW,?_⟩) hst hpl;exact Ry (us:=.ref a::us) (vs:=.ref a::vs) F hr hb hd hx I2 (.cons rfl r) q2
structure Mk(K:Frag)(C f:Addr):Prop where
 makes:makesIn K C=true
 init:findIn K (.ref C) "__init__"=some (some (.ref f))
 fn:isFn K (.ref f)=true
 kp:keepIn K (.ref C)=true
theorem Rz{pins:c7}{σ:St}{H:Hp}{s:Shared}{Q:VK}{us:List Value}{vs:List V}(M:Mk X.K C f)(F:aH X.prog X.w X.K X.mg X.base CX k f fd ps sp)(hr:cZ (k+1) X.A)(hb:Binds X.K fd ps ds)(hd:Vals iR ds)
  (hx:Passes CX X E) (I:Inv X pins σ H s) (r:Vals vs us)
  (h:∀x dx,H x=none->H dx=none->dx≠x->sp (.ref x::(vs++iR)) (upd (upd H dx (.own x)) x (.ins C dx [])) (λv H2=>v=.non/\Q (.ref x) H2) E):
  wpAny (model X.prog X.w) X.A (call (.ref C) us) (EP X pins σ Q) X.xe s:=by
 have hq:=h (s.heap.objs.size+1) s.heap.objs.size (I.hok.fresh (Nat.le_succ _)) (I.hok.fresh (le_refl _)) (ne_of_lt (lt_succ_self _));have I2:=Inv.made (C:=C) I;have r2:Vals (V.ref (s.heap.objs.size+1)::(vs++iR)) (Value.ref (s.heap.objs.size+1)::(us++ds)):=.cons rfl (r.append hd);have hl:(Value.ref (s.heap.objs.size+1)::us++ds).length=ps.length:=by
  have e:=r2.length;rw[F.len _ _ _ _ hq] at e
  exact e.symm
 refine wpAny_call (lr (f:=f) I.jW M.makes M.init (beq_iff_eq.mp M.fn) (codeAny_mono (F.run _ X.stack _ _ ⟨Value.ref (s.heap.objs.size+1)::us,[]⟩ (Value.ref (s.heap.objs.size+1)::(us++ds)) _ _ E (hr.make C us [])
  (I2.env0.make C us []) (hb _ (Value.ref (s.heap.objs.size+1)::us) I2.jW hl) r2 hq) λr s' hq'=>?_))
 cases r with
 |error e=>exact hx pins σ _ _ e s' I2 hq'
 |ok fl=>
  cases fl with
  |ret u=>
   obtain⟨v,H',I3,rv,ev,q3⟩:=I2.after hq';subst ev;exact⟨rv,⟨V.ref (s.heap.objs.size+1),H',I3,rfl,q3⟩⟩
  |next=>exact False.elim hq'
  |brk=>exact False.elim hq'
  |cont=>exact False.elim hq'
theorem nw(M:Mk X.K C f)(F:aH X.prog X.w X.K X.mg X.base CX k f fd ps sp)(hr:cZ (k+1) X.A)(hg:Gl X x)(hm:X.mg x=some (.ref C))(hb:Binds X.K fd ps ds)(hd:Vals iR ds)(hx:Passes CX X E)
  (ha:PA X (e::es) t) (hdb:(x==("__debug__":Str))=false:=by decide) (he:starEach (e::es) X.env=(false,eval e X.env)::starEach es X.env:=by rfl) (hpl:(backTo pos (starEach es X.env)).any (·.1)=false:=by rfl):
  PE X (.Call (.Name x p) (e::es) [] pos) (Rx C sp iR E t):=by
 intro pins s σ H Q I h;refine wpAny_Call_Name_kw (xZ I hg hm ?_ hdb);refine callWith_K (h₀:=X.base) I.ok.mod.vB M.kp (aX (ha pos pins s σ H _ I h) λus s1 ⟨vs,H1,I1,r,q⟩=>⟨I1.jW,?_⟩) he hpl;exact Rz M F hr hb hd hx I1 r q
theorem ny(M:Mk X.K C f)(F:aH X.prog X.w X.K X.mg X.base CX k f fd ps sp)(hr:cZ (k+1) X.A)(hg:Gl X x)(hm:X.mg x=some (.ref C))(hb:Binds X.K fd ps ds)(hd:Vals iR ds)(hx:Passes CX X E)
  (hdb:(x==("__debug__":Str))=false:=by decide):PE X (.Call (.Name x p) [] [] pos) (Rx C sp iR E oK):=by
 intro pins s σ H Q I h;refine wpAny_Call_Name_kw (xZ I hg hm ?_ hdb);exact PySem.W.callWith_K0 I.jW M.kp (Rz (us:=[]) M F hr hb hd hx I .nil h)
end
structure cQ(N P:List Str)(sc:Scope):Prop where
 kind:sc.kind=.function
 co:sc.isCoroutine=false
 gen:sc.isGenerator=false
 nd:N.Nodup
 pre:N.take P.length=P
 par:∀x∈P,sc.names.lookup x=some .local\/sc.names.lookup x=some .cell
 nz:∀y∈sc.names,y.2≠.free
theorem RB{kindOf:Str->Option NameKind}{x:Str}:∀ {binds:List (Str×Value)} {m:eV},(∀v,(x,v)∉binds)->bindL kindOf binds m x=m x
 |[],_,_=>rfl
 |(n,v)::r,m,h=>by
  unfold bindL;rw[RB λw hw=>h w (mem_cons_of_mem _ hw)]
  split
  ·have:x≠n:=by rintro rfl;exact h v mem_cons_self
   simp[this]
  ·rfl
theorem RG{kindOf:Str->Option NameKind}{x:Str}:∀ {binds:List (Str×Value)} {m:eV},(∀v,(x,v)∉binds)->bindC kindOf binds m x=m x
 |[],_,_=>rfl
 |(n,v)::r,m,h=>by
  unfold bindC;rw[RG λw hw=>h w (mem_cons_of_mem _ hw)]
  split
  ·rfl
  ·have:x≠n:=by rintro rfl;exact h v mem_cons_self
   simp[this]
theorem RJ{kindOf:Str->Option NameKind}{x:Str}{v:Value}:∀ {P:List Str} {vs:List Value} {i:Nat} {m:eV},P.Nodup->P[i]? = some x->vs[i]? = some v->kindOf x=some .local->
  bindL kindOf (P.zip vs) m x=some v
 |[],_,_,_,_,h,_,_=>by simp at h
 |_::_,[],_,_,_,_,h,_=>by simp at h
 |p::P,w::vs,0,m,nd,h1,h2,hk=>by
  simp at h1 h2;subst h1;subst h2
  show bindL kindOf ((p,w)::P.zip vs) m p=_;unfold bindL;rw[RB λv hv=>(List.nodup_cons.mp nd).1 (of_mem_zip hv).1,if_pos hk];simp
 |p::P,w::vs,i+1,m,nd,h1,h2,hk=>by
  show bindL kindOf ((p,w)::P.zip vs) m x=_;unfold bindL;exact RJ (i:=i) (List.nodup_cons.mp nd).2 (by simpa using h1) (by simpa using h2) hk
theorem RK{kindOf:Str->Option NameKind}{x:Str}{v:Value}:∀ {P:List Str} {vs:List Value} {i:Nat} {m:eV},P.Nodup->P[i]? = some x->vs[i]? = some v->kindOf x≠some .local->
  bindC kindOf (P.zip vs) m x=some v
 |[],_,_,_,_,h,_,_=>by simp at h
 |_::_,[],_,_,_,_,h,_=>by simp at h
 |p::P,w::vs,0,m,nd,h1,h2,hk=>by
  simp at h1 h2;subst h1;subst h2
  show bindC kindOf ((p,w)::P.zip vs) m p=_;unfold bindC;rw[RG λv hv=>(List.nodup_cons.mp nd).1 (of_mem_zip hv).1,if_neg hk];simp
 |p::P,w::vs,i+1,m,nd,h1,h2,hk=>by
  show bindC kindOf ((p,w)::P.zip vs) m x=_;unfold bindC;exact RK (i:=i) (List.nodup_cons.mp nd).2 (by simpa using h1) (by simpa using h2) hk
def start(N:List Str)(vs:List V):St:=vs.map some++List.replicate (N.length - vs.length) none
noncomputable def lJ(CX:jt)(P:Program)(w:World)(K:Frag)(mg:eV)(base:Heap)(N:List Str)(qual:Str)(scope:Scope)(f:Addr)(cd:Value)(A:Around)(outer:List Env)(s:Shared)(H:Hp)(E:XK):Cx where
 prog:=P
 w:=w
 K:=K
 mg:=mg
 base:=base
 A:=A.deeper (envOfC qual scope s.heap.objs.size f cd)
 N:=N
 s₀:=s
 H₀:=H
 env:=envOfC qual scope s.heap.objs.size f cd
 outer:=outer
 stack:=envOfC qual scope s.heap.objs.size f cd::outer
 ex:=[]
 calm:=true
 fn:=λ_=>true
 pn:=[]
 xe:=λe s'=>wpAny (model P w) (A.deeper (envOfC qual scope s.heap.objs.size f cd)) (leaving (envOfC qual scope s.heap.objs.size f cd) e) (λ_ s''=>CX outer H s E e s'') (λe' s''=>CX outer H s E e' s'') s'
theorem RL{sc:Scope}{n:Nat}{x:Str}(h:sc.names.lookup x=some .cell):∃c,(cellsFrom n sc.names []).lookup x=some c:=by
 have q:=PySem.W.cellsFrom_some sc.names n [] (.inl h);exact Option.isSome_iff_exists.mp q
theorem nB{CX:jt}{P:Program}{w:World}{K:Frag}{mg:eV}{base:Heap}{N ps:List Str}{qual:Str}{scope:Scope}{f:Addr}{cd:Value}{A:Around}{outer:List Env}{s s1:Shared}{H:Hp}{E:XK}{us:List Value}{vs:List V}
  (S:cQ N ps scope) (hd:A.handled=none) (e0:uh P w K mg base A outer s H) (hl:vs.length=ps.length) (r:Vals vs us)
  (x:InCallC s s.heap.objs.size (bindL (envOfC qual scope s.heap.objs.size f cd).kindOf (ps.zip us) λ_=>none) (cellsFrom (s.heap.objs.size+1) scope.names []) (bindC (envOfC qual scope s.heap.objs.size f cd).kindOf (ps.zip us) λ_=>none) s1):
  Inv (lJ CX P w K mg base N qual scope f cd A outer s H E) [] (start N vs) H s1:=by
 have hpl:ps.length<=N.length:=by have:=congrArg List.length S.pre;rw[length_take] at this;omega
 obtain⟨h1,tk,rfl,hk⟩:=x.done;have yj:∀b:Addr,b∉(lJ CX P w K mg base N qual scope f cd A outer s H E).ex:=λb z=>absurd (show b∈([]:List Addr) from z) (by simp)
 refine⟨⟨e0.mod,S.kind,rfl,rfl,le_refl _,λy z c h1 h2=>?_,λy hy=>?_,λy c _ h=>?_,λ_=>hd,Around.frames_deeper e0.frames,.inr ⟨rfl,rfl⟩,λb z=>absurd z (yj b),e0.bs,e0.oJ,λb _ _=>yj b,λb z=>absurd z (yj b),e0.mV,e0.tZ⟩,
  rfl,e0.bare,Un.kept hk,⟨_,x.toInCall.ns,λi y v h1 h2 h3=>?_⟩,λy c h=>⟨_,x.cell y c h⟩,e0.hok.fresh (le_refl _),λy c h=>?_,λp hp=>absurd (show p∈([]:c7) from hp) (by simp),e0.hok.kept hk,?_⟩
 ·exact name_of_addr x.apart (PySem.mem_of_lookup h1) (PySem.mem_of_lookup h2)
 ·have hy:scope.names.lookup y=some .cell\/scope.names.lookup y=some .free:=hy
  rcases hy with hy|hy
  ·exact RL hy
  ·exact absurd rfl (S.nz _ (PySem.mem_of_lookup hy))
 ·exact le_of_lt (x.above y c (PySem.mem_of_lookup h))
 ·have hi:i<vs.length:=by
   unfold start at h2
   by_cases hi:i<vs.length
   ·exact hi
   ·rw[List.getElem?_append_right (by simpa using hi)] at h2
    rw[List.getElem?_replicate] at h2
    split at h2<;>cases h2
  have ha:vs[i]? = some v:=by
   unfold start at h2
   rw[getElem?_append_left (by simpa using hi),getElem?_map] at h2
   cases e:vs[i]? with
   |none=>rw[e] at h2;cases h2
   |some a=>rw[e] at h2;cases h2;rfl
  obtain⟨u,hu,rv⟩:=r.get ha;have hp:ps[i]? = some y:=by
   rw[<-S.pre,List.getElem?_take_of_lt (by omega)];exact h1
  have RM:ps.Nodup:=by rw[<-S.pre];exact S.nd.sublist (List.take_sublist _ _)
  refine⟨u,rv,?_⟩;rcases S.par y (mem_of_getElem? hp) with k|k
  ·exact .inl ⟨k,RJ RM hp hu k⟩
  ·obtain⟨c,e⟩:=RL (n:=s.heap.objs.size+1) k
   refine .inr ⟨.inl k,c,e,?_⟩;have q:=x.cell y c e;rw[RK RM hp hu (by show scope.names.lookup y≠_;rw[k];decide)] at q
   exact q
 ·exact e0.hok.fresh (le_of_lt (x.above y c (PySem.mem_of_lookup h)))
 ·unfold start
  show _=N.length;rw[length_append,length_map,List.length_replicate];omega
theorem RN{CX:jt}{P:Program}{w:World}{K:Frag}{mg:eV}{base:Heap}{k:Nat}{f:Addr}{name qual:Str}{params:Arguments}{body:List Stmt}{scope:Scope}{dV kV doc pm cdv ct oc:Value}{an od:Option Addr}
  {osl:Array (Option Value)} {N ps:List Str} {sp:Sp} (lk:K.lookup f=some ⟨oc,od,.func (fnOf name qual params body scope dV kV doc pm an cdv ct),osl⟩) (hcd:codeIn K cdv qual=true) (S:cQ N ps scope)
  (len:∀vs H Q E,sp vs H Q E->vs.length=ps.length)
  (hbody:∀(A:Around) (outer:List Env) (s:Shared) (H:Hp) (vs:List V) (Q:VK) (E:XK),cZ k (A.deeper (envOfC qual scope s.heap.objs.size f cdv))->sp vs H Q E->
   ∃t,jk (lJ CX P w K mg base N qual scope f cdv A outer s H E) body t/\t { nx:=λ_ H'=>Q .non H',rt:=Q } (start N vs) H):
  aH P w K mg base CX (k+1) f (fnOf name qual params body scope dV kV doc pm an cdv ct) ps sp:=by
 refine⟨len,λA outer s H args us vs Q E hr e0 hb r hsp=>?_⟩;have hl:=len _ _ _ _ hsp;have KX:K.In s.heap:=e0.mod.vB.keeps λb o e=>(e0.bs b o e).1
 have lim:s.heap.NoLimit:=e0.mod.nolimit.keeps λb o e=>(e0.bs b o e).1
 have hkind:∀y∈ps.zip us,scope.names.lookup y.1=some .local\/(scope.names.lookup y.1=some .cell/\((cellsFrom (s.heap.objs.size+1) scope.names []).lookup y.1).isSome=true):=λ⟨n,v⟩ hy=>by
  rcases S.par n (of_mem_zip hy).1 with q|q
  ·exact .inl q
  ·exact .inr ⟨q,PySem.W.cellsFrom_some _ _ _ (.inl q)⟩
 refine codeAny_call_function hr.depth (KX _ _ lk) rfl S.co S.gen rfl (PySem.W.codeRec_of KX hcd) (hb _ _ _ _ ?_);refine wpAny_newFunctionEnv_cells S.kind hkind λenv he s1 x=>?_
 subst he;refine⟨lim.keeps x.toInCall.keep,codeAny_func ?_⟩;obtain⟨t,ht,hq⟩:=hbody A outer s H vs Q E (hr.deeper _) hsp;have I:Inv (lJ CX P w K mg base N qual scope f cdv A outer s H E) [] (start N vs) H s1:=nB S hr.hd e0 hl r x;refine wpAny_mono (ht [] s1 (start N vs) H _ I hq) (λfl s' hs=>?_) λe s' hs=>hs
 have fin:∀ {σ':St} {H':Hp} {v:V} {u:Value},Inv (lJ CX P w K mg base N qual scope f cdv A outer s H E) [] σ' H' s'->RelV v u->Q v H'->CE outer P w H s Q u s':=
  λ{σ' H' v u} J rv q=>⟨v,H',J.os,J.bare,J.base,J.hok,rv,q⟩
 cases fl with
 |ret u=>
  obtain⟨v,σ',H',J,rv,q⟩:=hs;exact fin J rv q
 |next=>
  obtain⟨σ',H',J,q⟩:=hs;exact fin (v:=V.non) (u:=Value.none) J rfl q
 |brk=>
  obtain⟨_,_,_,q⟩:=hs;exact False.elim q
 |cont=>
  obtain⟨_,_,_,q⟩:=hs;exact False.elim q
section
variable {X:Cx}{x:Str}{p pos:Pos}{e:Expr}{es:List Expr}{t:TA}{id T:String}{r:List V->Hp->VK->Prop}
def RP(r:List V->Hp->VK->Prop)(t:TA):TE:=λσ H Q=>t σ H λvs H1=>r vs H1 Q
theorem nE(hc:je X (.builtin id) r)(hg:Gl X x)(hm:X.mg x=none)(hv:bootBuiltins x=some (.builtin id))(ha:PA X (e::es) t)(hn:x≠"__name__":=by decide)(hdb:(x==("__debug__":Str))=false:=by decide)
  (he:starEach (e::es) X.env=(false,eval e X.env)::starEach es X.env:=by rfl) (hpl:(backTo pos (starEach es X.env)).any (·.1)=false:=by rfl):PE X (.Call (.Name x p) (e::es) [] pos) (RP r t):=by
 intro pins s σ H Q I h;refine wpAny_Call_Name_kw (y4 I hg hm hv ?_ hn hdb);exact PyProof.Rows.callWith_builtin1 (aX (ha pos pins s σ H _ I h) λus s1 ⟨vs,H1,I1,r1,q1⟩=>hc pins s1 σ H1 vs us Q I1 r1 q1) he hpl
theorem nI(hc:je X (.type T) r)(hg:Gl X x)(hm:X.mg x=none)(hv:bootBuiltins x=some (.type T))(ha:PA X (e::es) t)(hn:x≠"__name__":=by decide)(hdb:(x==("__debug__":Str))=false:=by decide)
  (he:starEach (e::es) X.env=(false,eval e X.env)::starEach es X.env:=by rfl) (hpl:(backTo pos (starEach es X.env)).any (·.1)=false:=by rfl):PE X (.Call (.Name x p) (e::es) [] pos) (RP r t):=by
 intro pins s σ H Q I h;refine wpAny_Call_Name_kw (y4 I hg hm hv ?_ hn hdb);exact PyProof.Rows.callWith_type1 (aX (ha pos pins s σ H _ I h) λus s1 ⟨vs,H1,I1,r1,q1⟩=>hc pins s1 σ H1 vs us Q I1 r1 q1) he hpl
end
end L2
namespace HT
open PySem PyProof.Rows
def lexLt:List Int->List Int->Bool
 |[],[]=>false
 |[],_::_=>true
 |_::_,[]=>false
 |x::xs,y::ys=>if x=y then lexLt xs ys else decide (x<y)
theorem yp(x y:Int)(xs ys:List Int):lexLt (x::xs) (y::ys)=if x=y then lexLt xs ys else decide (x<y):=rfl
theorem nK(y:Int)(ys:List Int):lexLt [] (y::ys)=true:=rfl
theorem nL(A:Around)(s:Shared)(a:Int)(t:Tok)(c:Int)(u:Tok):∃e,SeqAt.EqAt A s (.int a t) (.int c u) e/\(e=true↔a=c):=
 ⟨(a==c),SeqAt.EqAt.int_int a t c u,by simp⟩
theorem Eu(A:Around)(s:Shared)(a:Int)(t:Tok)(c:Int)(u:Tok)(prog:Program)(w:World)(E:cJ)(Q:cJ)(h:Q (.bool (decide (a<c))) s):
  wpAny (model prog w) A (richCompare .Lt (.int a t) (.int c u)) Q E s:=
 (PyProof.Rows.lt_int h:wpAny (model prog w) A (compareOp .Lt (.int a t) (.int c u)) Q E s)
section
open PySem.SeqAt
open PySem.AutoSeq1 (wpAny_loadPart')
open PySem.MeetsSeq PySem.MeetsSeq2 PySem.MeetsSeq3
end
section
variable {prog:Program}{w:World}{A:Around}{E:cJ}{s:Shared}
theorem nV{t b:Addr}{vs ws:List Value}{Q:cJ}(ht:IsTup s.heap t vs.toArray)(hb:IsTup s.heap b ws.toArray)(hv:vs≠[])
  (h1:ws=[]->Q (.ref t) s) (h2:ws≠[]->Q (.ref s.heap.objs.size) { s with heap:=s.heap.push { cls:=.type "tuple",data:=.seq (vs++ws).toArray } })
  (hsz:vs.length+ws.length<=sizeLine):wpAny (model prog w) A (binaryOp .Add (.ref t) (.ref b)) Q E s:=by
 obtain⟨⟨cls,dd,data,sl⟩,ho,hc,n,hd⟩:=id ht;obtain⟨⟨cls2,dd2,data2,sl2⟩,ho2,hc2,n2,hd2⟩:=id hb;simp only at hc hd hc2 hd2
 subst hc hd hc2 hd2;have e:vs.toArray++ws.toArray=(vs++ws).toArray:=by simp
 by_cases hw:ws=[]
 ·exact concat_meets ⟨_,ho,rfl⟩ ⟨_,ho2,rfl⟩ noFill_tuple_add seq_tuple_add PySem.F.slot_tuple_add PySem.F.entry_tuple_add (PySem.F.args_tuple_add_2 _ _)
   (tuple_addW1 t b vs.toArray ws.toArray n n2 dd dd2 sl sl2 (by simpa using hv) (by simp[hw])) ⟨ho,ho2,h1 hw⟩
 ·refine concat_meets ⟨_,ho,rfl⟩ ⟨_,ho2,rfl⟩ noFill_tuple_add seq_tuple_add PySem.F.slot_tuple_add PySem.F.entry_tuple_add (PySem.F.args_tuple_add_2 _ _)
   (tuple_addW2 t b vs.toArray ws.toArray n n2 dd dd2 sl sl2 (by simpa using hv) (by simpa using hw) (by rw[size_toArray,size_toArray];exact hsz)) ⟨ho,ho2,?_⟩
  rw[e];exact h2 hw
noncomputable def cT(n d:Nat):Option Int->Nat
 |none=>d
 |some v=>if v<0 then(v+(n:Int)).toNat else min v.toNat n
theorem Ew(n d:Nat):cT n d none=d:=rfl
theorem Ez(n d k:Nat):cT n d (some (k:Int))=min k n:=by
 show(if(k:Int)<0 then((k:Int)+(n:Int)).toNat else min (k:Int).toNat n)=min k n;rw[if_neg (by omega),Int.toNat_natCast]
theorem nX(n d:Nat)(hd:d<=n)(o:Option Int):cT n d o<=n:=by
 cases o with
 |none=>exact hd
 |some v=>
  show(if v<0 then(v+(n:Int)).toNat else min v.toNat n)<=n
  by_cases hv:v<0
  ·rw[if_pos hv];omega
  ·rw[if_neg hv];exact Nat.min_le_right _ _
theorem RQ(v:Int)(n d:Nat):(if v<0 then max (v+(n:Int)) 0 else min v (n:Int))=((cT n d (some v):Nat):Int):=by
 show(if v<0 then max (v+(n:Int)) 0 else min v (n:Int))=(((if v<0 then(v+(n:Int)).toNat else min v.toNat n):Nat):Int)
 by_cases hv:v<0
 ·simp only[if_pos hv];omega
 ·simp only[if_neg hv];omega
theorem oa(lo hi:Option Int)(n:Nat):Builtin.Slice.sliceAdjust lo hi 1 (n:Int)=(((cT n 0 lo:Nat):Int),((cT n n hi:Nat):Int)):=by
 have h1:¬((1:Int)<0):=by omega
 unfold Builtin.Slice.sliceAdjust;simp only[h1,if_false];refine Prod.ext ?_ ?_
 ·cases lo with
  |none=>rfl
  |some v=>exact RQ v n 0
 ·cases hi with
  |none=>rfl
  |some v=>exact RQ v n n
theorem oe(i j:Nat):Builtin.Slice.slicePlaces (i:Int) (j:Int) 1=j - i:=by
 unfold Builtin.Slice.slicePlaces;have h1:(1:Int) > 0:=by omega
 simp only[h1,if_true,Int.ediv_one]
 split<;>omega
theorem RV{v:Value}{o:Option Int}{Q:Option Int->Shared->Prop}(p:IsPart v o)(h:Q o s):wpAny (model prog w) A (Builtin.Slice.slicePartIndex v) Q E s:=by
 cases p with
 |none=>exact slicePart_none h
 |int i t=>exact slicePart_int h
theorem og{sl:Addr}{vl vu:Value}{lo hi:Option Int}{n:Nat}{Q:Int×Int×Nat->Shared->Prop}(hs:s.heap.IsSliceOf sl vl vu .none)(pl:IsPart vl lo)(pu:IsPart vu hi)
  (h:Q (((cT n 0 lo:Nat):Int),1,cT n n hi - cT n 0 lo) s):wpAny (model prog w) A (Builtin.Slice.sliceApplied (.ref sl) (pure (n:Int))) Q E s:=by
 obtain⟨os,hos,hcs,hds⟩:=id hs;unfold Builtin.Slice.sliceApplied Builtin.Slice.sliceFields;refine wpAny_bind (wpAny_bind (wpAny_field hos hds (x:=vl) rfl (wpAny_bind (wpAny_field hos hds (x:=vu) rfl (wpAny_bind (wpAny_field hos hds (x:=.none) rfl (wpAny_pure ?_)))))));refine wpAny_bind (slicePart_none ?_);show wpAny _ _ (if((1:Int)==0)=true then _ else _) _ _ s;rw[if_neg (by decide)];refine wpAny_bind (RV pl (wpAny_bind (RV pu (wpAny_bind (wpAny_pure ?_)))));show wpAny _ _ (match Builtin.Slice.sliceAdjust lo hi 1 (n:Int) with|(lo,hi)=>pure (lo,(1:Int),Builtin.Slice.slicePlaces lo hi 1)) _ _ s;rw[oa lo hi n];show wpAny _ _ (pure (((cT n 0 lo:Nat):Int),(1:Int),Builtin.Slice.slicePlaces ((cT n 0 lo:Nat):Int) ((cT n n hi:Nat):Int) 1)) _ _ s;rw[oe];exact wpAny_pure h
theorem oj(xs:Array Value)(i k:Nat):((List.range k).filterMap λ(m:Nat)=>xs[((i:Int)+(m:Int)*1).toNat]?).toArray=((xs.toList.drop i).take k).toArray:=by
 have e:(λ(m:Nat)=>xs[((i:Int)+(m:Int)*1).toNat]?)=λm=>xs[i+m]? :=by
  funext m
  have:((i:Int)+(m:Int)*1).toNat=i+m:=by omega
  rw[this]
 rw[e];have:=pick_run xs i k;rw[List.filterMap_map] at this
 have e2:((λx=>xs[x]?)∘λx=>i+x)=λm=>xs[i+m]? :=rfl
 rw[e2] at this
 rw[this]
theorem ol{t sl:Addr}{items:Array Value}{vl vu:Value}{lo hi:Option Int}{Q:cJ}(ht:IsTup s.heap t items)(hs:s.heap.IsSliceOf sl vl vu .none)(pl:IsPart vl lo)(pu:IsPart vu hi)
  (hw:¬(cT items.size 0 lo=0/\cT items.size items.size hi=items.size))
  (h:Q (.ref s.heap.objs.size) { s with heap:=s.heap.push { cls:=.type "tuple",data:=.seq ((items.toList.drop (cT items.size 0 lo)).take (cT items.size items.size hi - cT items.size 0 lo)).toArray } })
  (hsz:items.size<=sizeLine):wpAny (model prog w) A (getItem (.ref t) (.ref sl)) Q E s:=by
 have B5:sizeOk (.seq ((items.toList.drop (cT items.size 0 lo)).take (cT items.size items.size hi - cT items.size 0 lo)).toArray):=by
  show((items.toList.drop (cT items.size 0 lo)).take (cT items.size items.size hi - cT items.size 0 lo)).toArray.size<=sizeLine;rw[size_toArray,length_take,length_drop,Array.length_toList];omega
 have hj:cT items.size items.size hi<=items.size:=nX _ _ (le_refl _) hi;obtain⟨os,hos,hcs,hds⟩:=id hs;have hTs:s.TypeIs (.ref sl) "slice":=⟨os,hos,hcs⟩
 unfold getItem
 try with_reducible refine wpAny_holding ?_
 first|refine wpAny_bind (wpAny_pure ?_)|skip
 refine wpAny_bind (wpAny_sequenceKey ht.typeIs (by decide) ?_)
 refine wpAny_bind (wpAny_callSpecial?_slot (name:=Str.ofString "__getitem__") ht.typeIs PyProof.Rows.slot_tuple_getitem
  (wpAny_call_entry PyProof.Rows.slot_tuple_getitem ht.typeIs entry_tuple_getitem ?_ (args_tuple_getitem _ _)))
 show wpAny _ _ (Builtin.Tuple.tupleItemsOf (.ref t) >>= _) _ _ s;refine wpAny_bind (tupleItemsOf_ ht ?_);refine wpAny_bind (wpAny_typeOf hTs ?_);rw[if_pos (by decide)];refine wpAny_bind (og hs pl pu ?_);have hno:¬((((cT items.size 0 lo:Nat):Int)==0&&(1:Int)==1&&(cT items.size items.size hi - cT items.size 0 lo)==items.size)=true):=by
  intro q;rw[and_eq_true,and_eq_true] at q
  have q1:((cT items.size 0 lo:Nat):Int)=0:=eq_of_beq q.1.1;have q2:cT items.size items.size hi - cT items.size 0 lo=items.size:=eq_of_beq q.2;exact hw ⟨by omega,by omega⟩
 show wpAny _ _ (if(((cT items.size 0 lo:Nat):Int)==0&&(1:Int)==1&&(cT items.size items.size hi - cT items.size 0 lo)==items.size)=true then _ else _) _ _ s;rw[if_neg hno,oj]
 first
  |exact wpAny_bind (m:=Builtin.Tuple.tupleExact _) (wpAny_newObj_type (wpAny_pure ⟨_,rfl,wpAny_pure h⟩) B5)
  |exact wpAny_bind (m:=Builtin.Tuple.tupleExact _) (wpAny_newObj_type (wpAny_bind (wpAny_pure (wpAny_pure ⟨_,rfl,wpAny_pure h⟩))) B5)
  |exact wpAny_bind (wpAny_bind (m:=Builtin.Tuple.tupleExact _) (wpAny_newObj_type (wpAny_pure (wpAny_pure ⟨_,rfl,wpAny_pure h⟩)) B5))
  |exact wpAny_bind (wpAny_bind (m:=Builtin.Tuple.tupleExact _) (wpAny_newObj_type (wpAny_pure ⟨_,rfl,wpAny_pure h⟩) B5))
end
end HT
namespace L2
open PySem PySem.Spec PyProof.Rows
abbrev TO:=St->Hp->(Option Int->Hp->Prop)->Prop
def PO(X:Cx)(e:Option Expr)(t:TO):Prop:=
 ∀(pins:c7) (s:Shared) (σ:St) (H:Hp) (Q:Option Int->Hp->Prop),Inv X pins σ H s->t σ H Q->
  wpAny (model X.prog X.w) X.A (evalPart e X.env) (λu s'=>∃o H',Inv X pins σ H' s'/\IsPart u o/\Q o H') X.xe s
def om:TO:=λ_ H Q=>Q none H
def oq(t:TE):TO:=λσ H Q=>t σ H λx H1=>∃i,x=.int i/\Q (some i) H1
theorem zl5{ns:List Int}:∀ {us:List Value},Vals (ns.map V.int) us->IntsAre us ns:=by
 induction ns with
 |nil=>intro us r;rw[map_nil] at r;cases r;exact .nil
 |cons n ns ih=>
  intro us r;rw[map_cons] at r
  cases r with
  |cons r1 r2=>
   obtain⟨t,e⟩:=r1;subst e;exact .cons n t (ih r2)
section
variable {X:Cx}{e:Expr}{te:TE}{lo hi:Option Expr}{tl th:TO}{pos p2:Pos}
theorem yq:PO X none om:=by
 intro pins s σ H Q I h;rw[evalPart_none];exact wpAny_pure ⟨none,H,I,.none,h⟩
theorem ot(h:PE X e te):PO X (some e) (oq te):=by
 intro pins s σ H Q I hw;rw[evalPart_some];refine aX (h pins s σ H _ I hw) λu s1 ⟨x,H1,I1,r1,q1⟩=>?_
 obtain⟨i,rfl,q⟩:=q1;obtain⟨t,rfl⟩:=r1;exact⟨some i,H1,I1,.int i t,q⟩
def EY(X:Cx)(r:V->Option Int->Option Int->Hp->VK->Prop):Prop:=
 ∀(pins:c7) (s:Shared) (σ:St) (H:Hp) (x:V) (v vl vu:Value) (lo hi:Option Int) (sl:Addr) (Q:VK),Inv X pins σ H s->RelV x v->s.heap.IsSliceOf sl vl vu .none->IsPart vl lo->IsPart vu hi->r x lo hi H Q->
  ∃T id,typeLookup (.type T) "__getitem__"=pure (some (.builtin id))/\s.TypeIs v T/\wpAny (model X.prog X.w) X.A (getItem v (.ref sl)) (EP X pins σ Q) X.xe s
def ow(r:V->Option Int->Option Int->Hp->VK->Prop)(te:TE)(tl th:TO):TE:=λσ H Q=>te σ H λx H1=>tl σ H1 λl H2=>th σ H2 λu H3=>r x l u H3 Q
theorem ox{r:V->Option Int->Option Int->Hp->VK->Prop}(hr:EY X r)(he:PE X e te)(hl:PO X lo tl)(hu:PO X hi th):PE X (.Subscript e (.Slice lo hi none p2) pos) (ow r te tl th):=by
 intro pins s σ H Q I h;refine Subscript_ (aX (he pins s σ H _ I h) λv s1 ⟨x,H1,I1,r1,q1⟩=>?_);refine wpAny_Slice (aX (hl pins s1 σ H1 _ I1 q1) λvl s2 ⟨l,H2,I2,pl,q2⟩=>aX (hu pins s2 σ H2 _ I2 q2) λvu s3 ⟨u,H3,I3,pu,q3⟩=>?_);rw[evalPart_none];refine wpAny_pure ?_;have I4:Inv X pins σ H3 { s3 with heap:=s3.heap.push { cls:=.type "slice",data:=.fields #[vl,vu,.none] } }:=I3.kept (t':=s3.toks) λb ob q=>Heap.get?_push_of_some _ q
 obtain⟨T,id,hT,ht,hg⟩:=hr pins { s3 with heap:=s3.heap.push { cls:=.type "slice",data:=.fields #[vl,vu,.none] } } σ H3 x v vl vu l u s3.heap.objs.size Q I4 r1 (Heap.IsSliceOf.new ..) pl pu q3
 show wpAny (model X.prog X.w) X.A (subscriptTail e (.Slice lo hi none p2) v (.ref s3.heap.objs.size)) (EP X pins σ Q) X.xe { s3 with heap:=s3.heap.push { cls:=.type "slice",data:=.fields #[vl,vu,.none] } }
 exact tail_any (ops:=[.ref s3.heap.objs.size,v]) ht hT hg (by with_unfolding_all rfl)
def iT(xs:List V)(lo hi:Option Int):List V:=(xs.drop (HT.cT xs.length 0 lo)).take (HT.cT xs.length xs.length hi - HT.cT xs.length 0 lo)
theorem RX(xs:List V)(lo hi:Option Int):(iT xs lo hi).length<=xs.length:=by
 unfold iT;rw[length_take,length_drop];omega
def oy(K:Frag):V->Option Int->Option Int->Hp->VK->Prop:=λx lo hi H Q=>∃a xs,x=.ref a/\a9 K H a xs/\
 ¬(HT.cT xs.length 0 lo=0/\HT.cT xs.length xs.length hi=xs.length)/\∀p,H p=none->Q (.ref p) (upd H p (.tup (iT xs lo hi)))
theorem oz:EY X (oy X.K):=by
 intro pins s σ H x v vl vu lo hi sl Q I rx hs pl pu h;obtain⟨a,xs,rfl,hx,hw,q⟩:=h;cases rx;obtain⟨its,r,ht,hz⟩:=I.tuple hx;have hlen:its.toArray.size=xs.length:=by rw[size_toArray];exact r.length.symm
 refine⟨"tuple",_,PyProof.Rows.slot_tuple_getitem.lookup,ht.typeIs,?_⟩
 refine HT.ol ht hs pl pu (by rw[hlen];exact hw) ?_ (by rw[hlen];exact hz);rw[hlen];refine⟨.ref s.heap.objs.size,_,I.laid (t':=s.toks) (o:=.tup (iT xs lo hi)) (λb ob q=>Heap.get?_push_of_some _ q) (le_refl _) ?_,rfl,q _ (I.hok.fresh (le_refl _))⟩;exact⟨le_trans (RX xs lo hi) hz,_,(r.drop (HT.cT xs.length 0 lo)).take (HT.cT xs.length xs.length hi - HT.cT xs.length 0 lo),IsTup.new _ _⟩
def oC(K:Frag):R2:=λx y H Q=>∃a b xs ys,x=.ref a/\y=.ref b/\a9 K H a xs/\a9 K H b ys/\xs≠[]/\xs.length+ys.length<=sizeLine/\
 (ys=[]->Q (.ref a) H)/\(ys≠[]->∀p,H p=none->Q (.ref p) (upd H p (.tup (xs++ys))))
theorem Vals.F0{xs:List V}{us:List Value}(r:Vals xs us):us=[]↔xs=[]:=by
 cases r with
 |nil=>simp
 |cons _ _=>simp
theorem oI:gC X (binaryOp .Add) (oC X.K):=by
 intro pins s σ H x y v u Q I rx ry h;obtain⟨a,b,xs,ys,rfl,rfl,ha,hb,hx,hz,q1,q2⟩:=h;cases rx;cases ry;obtain⟨its,r1,p1,_⟩:=I.tuple ha;obtain⟨its2,r2,p2,_⟩:=I.tuple hb;refine HT.nV p1 p2 (λz=>hx (r1.F0.mp z)) (λz=>⟨.ref a,H,I,rfl,q1 (r2.F0.mp z)⟩) (λz=>?_) (by rw[<-r1.length,<-r2.length];exact hz);refine⟨.ref s.heap.objs.size,_,I.laid (t':=s.toks) (o:=.tup (xs++ys)) (λb ob q=>Heap.get?_push_of_some _ q) (le_refl _) ?_,rfl,q2 (λw=>z (r2.F0.mpr w)) _ (I.hok.fresh (le_refl _))⟩;exact⟨by rw[length_append];exact hz,_,r1.append r2,IsTup.new _ _⟩
end
noncomputable def qX(n:Nat)(i:Int):Option Nat:=if 0<=i then(if i<n then some i.toNat else none) else if -(n:Int)<=i then some (i+n).toNat else none
def dN{α:Type}(xs:List α)(i:Int):Option α:=(qX xs.length i).bind λj=>xs[j]?
theorem oP{n:Nat}{i:Int}{j:Nat}(h:qX n i=some j):seqIndex? i n=some j/\j<n /\ -(n:Int)<=i/\i<n:=by
 unfold qX at h
 by_cases h0:0<=i
 ·rw[if_pos h0] at h
  by_cases h1:i<n
  ·rw[if_pos h1] at h
   have e:i.toNat=j:=Option.some.inj h;exact⟨by rw[seqIndex_of h0 h1,e],by omega,by omega,h1⟩
  ·rw[if_neg h1] at h;cases h
 ·rw[if_neg h0] at h
  by_cases h1 : -(n:Int)<=i
  ·rw[if_pos h1] at h
   have e:(i+n).toNat=j:=Option.some.inj h;exact⟨by rw[seqIndex_neg (by omega) h1,e],by omega,h1,by omega⟩
  ·rw[if_neg h1] at h;cases h
theorem RZ{α:Type}{xs:List α}{i:Int}{v:α}(h:dN xs i=some v):∃j,seqIndex? i xs.length=some j/\xs[j]? = some v/\j<xs.length /\ -(xs.length:Int)<=i/\i<xs.length:=by
 unfold dN at h
 cases e:qX xs.length i with
 |none=>rw[e] at h;cases h
 |some j=>
  rw[e] at h
  obtain⟨h1,h2,h3,h4⟩:=oP e;exact⟨j,h1,h,h2,h3,h4⟩
theorem gF{α:Type}{xs:List α}{j:Nat}{v:α}(h:xs[j]? = some v):dN xs (j:Int)=some v:=by
 have hj:j<xs.length:=(List.getElem?_eq_some_iff.mp h).1;have e:qX xs.length (j:Int)=some j:=by
  unfold qX;rw[if_pos (by omega),if_pos (by omega)];simp
 unfold dN;rw[e];exact h
theorem oQ{α:Type}(xs:List α)(v:α):dN (xs++[v]) (-1)=some v:=by
 have hl:(xs++[v]).length=xs.length+1:=by simp
 have e:qX (xs++[v]).length (-1)=some xs.length:=by
  unfold qX;rw[hl,if_neg (by decide),if_pos (by omega)]
  congr 1
  omega
 unfold dN;rw[e];show(xs++[v])[xs.length]? = some v;simp
def oS(b:Expr):Prop:=∀o i,subscripted b false o i=operate [o,i] (getItem o i)
def vH(X:Cx)(r:R2):Prop:=
 ∀(value slice:Expr) (pins:c7) (s:Shared) (σ:St) (H:Hp) (x y:V) (v u:Value) (Q:VK),Inv X pins σ H s->RelV x v->RelV y u->r x y H Q->
  subscripted slice false v u=operate [v,u] (getItem v u)->wpAny (model X.prog X.w) X.A (subscriptTail value slice v u) (EP X pins σ Q) X.xe s
def vI(X:Cx)(id:String)(r:V->List V->Hp->VK->Prop):Prop:=
 ∀(pins:c7) (s:Shared) (σ:St) (H:Hp) (x:V) (xs:List V) (v:Value) (us:List Value) (Q:VK),Inv X pins σ H s->RelV x v->Vals xs us->r x xs H Q->
  wpAny (model X.prog X.w) X.A (call (.builtin id) (v::us)) (EP X pins σ Q) X.xe s
section
variable {X:Cx}{a b:Expr}{ta tb:TE}{pos:Pos}
theorem pe{r:R2}(hr:vH X r)(ha:PE X a ta)(hb:PE X b tb)(hs:oS b):PE X (.Subscript a b pos) (qU r ta tb):=by
 intro pins s σ H Q I h;exact Subscript_ (El ha hb I h λv u s2 x y H2 I2 rx ry q=>hr a b pins s2 σ H2 x y v u Q I2 rx ry q (hs _ _))
inductive S0(K:Frag)(x y:V)(H:Hp)(Q:VK):Prop
 |mk (p:Addr) (xs:List V) (i:Int) (v:V) (a:x=.ref p) (b:y=.int i) (s:aG K H p xs) (h:dN xs i=some v) (q:Q v H):S0 K x y H Q
inductive um(K:Frag)(x y:V)(H:Hp)(Q:VK):Prop
 |mk (p:Addr) (xs:List V) (i:Int) (v:V) (a:x=.ref p) (b:y=.int i) (s:a9 K H p xs) (h:dN xs i=some v) (q:Q v H):um K x y H Q
theorem gK:vH X (S0 X.K):=by
 intro value slice pins s σ H x y v u Q I rx ry h hs;obtain⟨p,xs,i,z,rfl,rfl,hq,he,q⟩:=h;cases rx;obtain⟨t,rfl⟩:=ry;obtain⟨its,r,pl,hz⟩:=I.list hq;obtain⟨j,h1,h2,h3,h4,h5⟩:=RZ he;obtain⟨w,ew,oM⟩:=r.get h2;have hl:=r.length;have hn:=yh;have fin:EP X pins σ Q w s:=⟨z,H,I,oM,q⟩
 by_cases h0:0<=i
 ·have hj:i.toNat=j:=by
   rw[seqIndex_of h0 h5] at h1
   exact Option.some.inj h1
  exact item_listR pl.isList h0 (by omega) (by rw[hj];simpa using ew) fin hs
 ·have hj:(i+(its.toArray.size:Int)).toNat=j:=by
   rw[seqIndex_neg (by omega) h4] at h1
   rw[size_toArray,<-hl];exact Option.some.inj h1
  exact subscriptTail_builtinR (x:=w) pl.isList.typeIs slot_list_getitem.lookup
   (wpAny_getItem_list_neg (Q:=λr s'=>r=w/\EP X pins σ Q r s') pl.isList (by omega) (by rw[size_toArray]<;>omega) (by omega) (by rw[hj];simpa using ew) ⟨rfl,fin⟩) hs
theorem aN:vH X (um X.K):=by
 intro value slice pins s σ H x y v u Q I rx ry h hs;obtain⟨p,xs,i,z,rfl,rfl,hq,he,q⟩:=h;cases rx;obtain⟨t,rfl⟩:=ry;obtain⟨its,r,pl,hz⟩:=I.tuple hq;obtain⟨j,h1,h2,h3,h4,h5⟩:=RZ he;obtain⟨w,ew,oM⟩:=r.get h2;have hl:=r.length;have hn:=yh;have fin:EP X pins σ Q w s:=⟨z,H,I,oM,q⟩;exact subscriptTail_builtinR (x:=w) pl.typeIs slot_tuple_getitem.lookup
  (getItem_tuple (j:=j) (Q:=λr s'=>r=w/\EP X pins σ Q r s') pl (by omega) (by omega) (by rw[size_toArray,<-hl];exact h1) (by simpa using ew) ⟨rfl,fin⟩) hs
theorem Inv.lst{pins:c7}{σ:St}{H:Hp}{s:Shared}{p:Addr}{xs:List V}(I:Inv X pins σ H s)(h:H p=some (.lst xs)):
  ∃(its:List Value) (n:Nat),Vals xs its/\s.heap.get? p=some { cls:=.type "list",data:=.seq its.toArray n }/\xs.length<=sizeLine:=by
 obtain⟨z,its,n,r,e⟩:=I.hok p _ h;exact⟨its,n,r,e,z⟩
theorem pf(lo hi:Option Int)(n:Nat):(sliceBounds lo hi none n).1=((HT.cT n 0 lo:Nat):Int)/\(sliceBounds lo hi none n).2.1=((HT.cT n n hi:Nat):Int)/\(sliceBounds lo hi none n).2.2=1:=by
 refine⟨?_,?_,rfl⟩
 ·cases lo with
  |none=>simp[sliceBounds,HT.cT]
  |some i=>
   simp only[sliceBounds,HT.cT,Option.getD_none,show(1:Int) > 0 by decide,if_true]
   by_cases h:i<0
   ·simp only[h,if_true]<;>omega
   ·simp only[h,if_false]<;>omega
 ·cases hi with
  |none=>simp[sliceBounds,HT.cT]
  |some i=>
   simp only[sliceBounds,HT.cT,Option.getD_none,show(1:Int) > 0 by decide,if_true]
   by_cases h:i<0
   ·simp only[h,if_true]<;>omega
   ·simp only[h,if_false]<;>omega
theorem ph(its:List Value)(lo hi:Option Int):slicePick its.toArray lo hi none=((its.drop (HT.cT its.length 0 lo)).take (HT.cT its.length its.length hi - HT.cT its.length 0 lo)).toArray:=by
 obtain⟨h1,h2,h3⟩:=pf lo hi its.toArray.size;unfold slicePick;rw[h1,h2,h3];simp only[sliceRange_one,pick_run,size_toArray]<;>rfl
def pr(K:Frag):V->Option Int->Option Int->Hp->VK->Prop:=λx lo hi H Q=>∃a xs,x=.ref a/\aG K H a xs/\∀p,H p=none->Q (.ref p) (upd H p (.lst (iT xs lo hi)))
theorem B6:EY X (pr X.K):=by
 intro pins s σ H x v vl vu lo hi sl Q I rx hs pl pu h;obtain⟨a,xs,rfl,hx,q⟩:=h;cases rx;obtain⟨its,r,ht,hz⟩:=I.list hx;have hlen:=r.length;refine⟨"list",_,slot_list_getitem.lookup,ht.isList.typeIs,?_⟩
 refine wpAny_getItem_list_slice ht.isList hs pl pu .none (by simp) ?_ (by rw[size_toArray]<;>omega);rw[ph,<-hlen];refine⟨.ref s.heap.objs.size,_,I.laid (t':=s.toks) (o:=.lst (iT xs lo hi)) (λb ob q=>Heap.get?_push_of_some _ q) (le_refl _) ?_,rfl,q _ (I.hok.fresh (le_refl _))⟩;exact⟨le_trans (RX xs lo hi) hz,_,0,(r.drop (HT.cT xs.length 0 lo)).take (HT.cT xs.length xs.length hi - HT.cT xs.length 0 lo),Heap.get?_push_size _ rfl⟩
def pU:V->Bool
 |.non=>true
 |.bl _=>true
 |.int _=>true
 |.str _=>true
 |_=>false
noncomputable def jY:V->V->Bool
 |.non,.non=>true
 |.bl a,.bl b=>a==b
 |.bl a,.int b=>(if a then 1 else 0)==b
 |.int a,.bl b=>a==(if b then 1 else 0)
 |.int a,.int b=>a==b
 |.str a,.str b=>a==b
 |_,_=>false
theorem pw{A:Around}{s:Shared}{y x:V}{u v:Value}(ry:RelV y u)(rx:RelV x v)(fy:pU y=true)(fx:pU x=true):SeqAt.EqAt A s u v (jY y x):=by
 cases y with
 |non=>
  cases ry;cases x with
  |non=>cases rx;exact SeqAt.EqAt.same _
  |bl b=>cases rx;exact SeqAt.EqAt.none_bool b
  |int b=>obtain⟨t,rfl⟩:=rx;exact SeqAt.EqAt.none_int b t
  |str b=>obtain⟨t,rfl⟩:=rx;exact SeqAt.EqAt.none_str b t
  |_=>exact absurd (show false=true from fx) Bool.false_ne_true
 |bl a=>
  cases ry;cases x with
  |non=>cases rx;exact SeqAt.EqAt.bool_none a
  |bl b=>cases rx;exact SeqAt.EqAt.bool_bool a b
  |int b=>obtain⟨t,rfl⟩:=rx;exact SeqAt.EqAt.bool_int a b t
  |str b=>obtain⟨t,rfl⟩:=rx;exact SeqAt.EqAt.bool_str a b t
  |_=>exact absurd (show false=true from fx) Bool.false_ne_true
 |int a=>
  obtain⟨t',rfl⟩:=ry;cases x with
  |non=>cases rx;exact SeqAt.EqAt.int_none a t'
  |bl b=>cases rx;exact SeqAt.EqAt.int_bool a t' b
  |int b=>obtain⟨t,rfl⟩:=rx;exact SeqAt.EqAt.int_int a t' b t
  |str b=>obtain⟨t,rfl⟩:=rx;exact SeqAt.EqAt.int_str a t' b t
  |_=>exact absurd (show false=true from fx) Bool.false_ne_true
 |str a=>
  obtain⟨t',rfl⟩:=ry;cases x with
  |non=>cases rx;exact SeqAt.EqAt.str_none a t'
  |bl b=>cases rx;exact SeqAt.EqAt.str_bool a t' b
  |int b=>obtain⟨t,rfl⟩:=rx;exact SeqAt.EqAt.str_int a t' b t
  |str b=>obtain⟨t,rfl⟩:=rx;exact SeqAt.EqAt.str_str a t' b t
  |_=>exact absurd (show false=true from fx) Bool.false_ne_true
 |_=>exact absurd (show false=true from fy) Bool.false_ne_true
def jG(x:V)(u:Value):Bool:=match u with
 |.none=>jY .non x
 |.bool b=>jY (.bl b) x
 |.int i _=>jY (.int i) x
 |.str z _=>jY (.str z) x
 |_=>false
theorem S8{x y:V}{u:Value}(r:RelV y u)(f:pU y=true):jG x u=jY y x:=by
 cases y with
 |non=>cases r;rfl
 |bl b=>cases r;rfl
 |int i=>obtain⟨t,rfl⟩:=r;rfl
 |str z=>obtain⟨t,rfl⟩:=r;rfl
 |_=>exact absurd (show false=true from f) Bool.false_ne_true
theorem yr{x:V}:∀ {xs:List V} {us:List Value},Vals xs us->xs.all pU=true->us.any (jG x)=xs.any λy=>jY y x
 |_,_,.nil,_=>rfl
 |y::xs,u::us,.cons r t,f=>by
  rw[List.all_cons,and_eq_true] at f
  rw[any_cons,any_cons,S8 r f.1,yr t f.2]
theorem yt{A:Around}{s:Shared}{x:V}{v:Value}(rx:RelV x v)(fx:pU x=true):∀ {xs:List V} {us:List Value},Vals xs us->xs.all pU=true->∀u∈us,SeqAt.EqAt A s u v (jG x u)
 |_,_,.nil,_=>λu hu=>by cases hu
 |y::xs,u::us,.cons r t,f=>λu' hu=>by
  rw[List.all_cons,and_eq_true] at f
  rcases List.mem_cons.mp hu with rfl|hu
  ·rw[S8 r f.1];exact pw r rx f.1 fx
  ·exact yt rx fx t f.2 u' hu
def inV(x:V)(xs:List V):Bool:=xs.any λy=>jY y x
inductive F1(K:Frag)(neg:Bool)(x y:V)(H:Hp)(Q:VK):Prop
 |mk (p:Addr) (xs:List V) (a:y=.ref p) (s:aG K H p xs\/a9 K H p xs) (f:pU x=true) (g:xs.all pU=true) (q:Q (.bl (if neg then !inV x xs else inV x xs)) H):F1 K neg x y H Q
theorem qY:gC X (compareOp .In) (F1 X.K false):=by
 intro pins s σ H x y v u Q I rx ry h;obtain⟨p,xs,rfl,hq,fx,fs,q⟩:=h;cases ry;rcases hq with hq|hq
 ·obtain⟨its,r,pl,hz⟩:=I.list hq
  refine SeqAt.in_listAt (jG x) pl.isList (λw hw=>yt rx fx r fs w (by simpa using hw)) ⟨.bl _,H,I,rfl,?_⟩;rw[show its.toArray.any (jG x)=its.any (jG x) by simp,yr r fs];exact q
 ·obtain⟨its,r,pl,hz⟩:=I.tuple hq
  refine SeqAt.in_tupleAt (jG x) pl (λw hw=>yt rx fx r fs w (by simpa using hw)) ⟨.bl _,H,I,rfl,?_⟩;rw[show its.toArray.any (jG x)=its.any (jG x) by simp,yr r fs];exact q
theorem S9:gC X (compareOp .NotIn) (F1 X.K true):=by
 intro pins s σ H x y v u Q I rx ry h;obtain⟨p,xs,rfl,hq,fx,fs,q⟩:=h;cases ry;rcases hq with hq|hq
 ·obtain⟨its,r,pl,hz⟩:=I.list hq
  refine SeqAt.notIn_listAt (jG x) pl.isList (λw hw=>yt rx fx r fs w (by simpa using hw)) ⟨.bl _,H,I,rfl,?_⟩;rw[show its.toArray.any (jG x)=its.any (jG x) by simp,yr r fs];exact q
 ·obtain⟨its,r,pl,hz⟩:=I.tuple hq
  refine SeqAt.notIn_tupleAt (jG x) pl (λw hw=>yt rx fx r fs w (by simpa using hw)) ⟨.bl _,H,I,rfl,?_⟩;rw[show its.toArray.any (jG x)=its.any (jG x) by simp,yr r fs];exact q
theorem pW:je X (.builtin "len") (λxs H Q=>∃p ys,xs=[.ref p]/\(aG X.K H p ys\/a9 X.K H p ys)/\Q (.int ys.length) H):=by
 intro pins s σ H xs us Q I r h;obtain⟨p,ys,rfl,hq,q⟩:=h;obtain⟨u,rfl,rx⟩:=zl2 r;cases rx;have hn:=yh;rcases hq with hq|hq
 ·obtain⟨its,r',pl,hz⟩:=I.list hq
  have hlen:=r'.length;exact Calls.call_len_list pl.isList (by simp only[size_toArray]<;>omega) ⟨.int ys.length,H,I.tok _,⟨s.toks+1,by rw[size_toArray,hlen]⟩,q⟩
 ·obtain⟨its,r',pl,hz⟩:=I.tuple hq
  have hlen:=r'.length;exact len_tuple pl (by simp only[size_toArray]<;>omega) ⟨.int ys.length,H,I.tok _,⟨s.toks+1,by rw[size_toArray,hlen]⟩,q⟩
theorem B7:je X (.builtin "len") (λxs H Q=>∃z,xs=[.str z]/\z.length<=sizeLine/\Q (.int z.length) H):=by
 intro pins s σ H xs us Q I r h;obtain⟨z,rfl,hz,q⟩:=h;obtain⟨u,rfl,t,rfl⟩:=zl2 r;have hn:=yh;exact len_str (by omega) ⟨.int z.length,H,I.tok _,⟨_,rfl⟩,q⟩
theorem je.or{f:Value}{r r':List V->Hp->VK->Prop}(h:je X f r)(h':je X f r'):je X f (λxs H Q=>r xs H Q\/r' xs H Q):=by
 intro pins s σ H xs us Q I rs q;rcases q with q|q
 ·exact h pins s σ H xs us Q I rs q
 ·exact h' pins s σ H xs us Q I rs q
theorem Sd:je X (.type "tuple") (λxs H Q=>∃p ys,xs=[.ref p]/\((aG X.K H p ys/\∀l,H l=none->Q (.ref l) (upd H l (.tup ys)))\/(a9 X.K H p ys/\Q (.ref p) H))):=by
 intro pins s σ H xs us Q I r h;obtain⟨p,ys,rfl,h⟩:=h;obtain⟨u,rfl,rx⟩:=zl2 r;cases rx;rcases h with⟨hq,q⟩|⟨hq,q⟩
 ·obtain⟨its,r',pl,hz⟩:=I.list hq
  have hlen:=r'.length;refine call_tuple_list pl.isList (λh' kp=>?_) (by simp only[size_toArray]<;>omega);have I1:Inv X pins σ H { s with heap:=h' }:=I.kept (t':=s.toks) kp;have I2:Inv X pins σ (upd H h'.objs.size (.tup ys)) { s with heap:=h'.push { cls:=.type "tuple",data:=.seq its.toArray } }:=
   I1.laid (t':=s.toks) (λb o e=>Heap.get?_push_of_some _ e) (le_refl _) (show gB X.prog X.w _ _ _ (.tup ys) from⟨hz,its,r',IsTup.new _ _⟩)
  exact⟨.ref h'.objs.size,_,I2,rfl,q _ (I1.hok.fresh (le_refl _))⟩
 ·obtain⟨its,r',pl,hz⟩:=I.tuple hq
  exact call_tuple_same pl ⟨.ref p,H,I,rfl,q⟩
def F2(K:Frag)(T:String)(x:V)(H:Hp):Prop:=match x with
 |.str _=>T="str"
 |.int _=>T="int"
 |.ref p=>(T="list"/\∃xs,aG K H p xs)\/(T="tuple"/\∃o,K.lookup p=some o/\o.cls=.type "tuple"/\o.dict=none)\/
   (T="dict"/\((∃kvs,H p=some (.dK kvs))\/∃kvs,H p=some (.dT kvs)))\/(T="set"/\∃S n,H p=some (.set S n))
 |_=>False
theorem Sg{pins:c7}{σ:St}{H:Hp}{s:Shared}{T:String}{x:V}{v:Value}(I:Inv X pins σ H s)(r:RelV x v)(ty:F2 X.K T x H):
  s.TypeIs v T/\∀a,v=.ref a->∃ob,s.heap.get? a=some ob/\ob.dict=none:=by
 cases x with
 |str z=>
  obtain⟨t,rfl⟩:=r;cases(show T="str" from ty)
  exact⟨typeIs_str s z t,λ_ e=>nomatch e⟩
 |int i=>
  obtain⟨t,rfl⟩:=r;cases(show T="int" from ty)
  exact⟨typeIs_int s i t,λ_ e=>nomatch e⟩
 |ref p=>
  cases r;rcases ty with⟨rfl,xs,hq⟩|⟨rfl,o,hk,hc,hd⟩|⟨rfl,hk⟩|⟨rfl,S,n,hk⟩
  ·obtain⟨its,_,pl,_⟩:=I.list hq
   refine⟨pl.isList.typeIs,λa e=>?_⟩;cases e;obtain⟨o,n,e,c,hd,_⟩:=pl;exact⟨o,e,hd⟩
  ·refine⟨⟨o,I.jW p o hk,hc⟩,λa e=>?_⟩
   cases e;exact⟨o,I.jW _ o hk,hd⟩
  ·have z:∃o,s.heap.get? p=some o/\o.ExactDict:=by
    rcases hk with⟨kvs,hk⟩|⟨kvs,hk⟩
    ·obtain⟨_,_,_,_,o,_,_,e,ex,_⟩:=I.hok p _ hk
     exact⟨o,e,ex⟩
    ·obtain⟨_,_,_,_,o,_,_,e,ex,_⟩:=I.hok p _ hk
     exact⟨o,e,ex⟩
   obtain⟨o,e,ex⟩:=z;refine⟨⟨o,e,ex.1⟩,λa e2=>?_⟩;cases e2;exact⟨o,e,ex.2.1⟩
  ·obtain⟨o,_,_,_,e,ex,_⟩:=I.hok p _ hk
   refine⟨⟨o,e,ex.1⟩,λa e2=>?_⟩;cases e2;exact⟨o,e,ex.2.1⟩
 |_=>exact False.elim ty
def pz(K:Frag)(T:String)(r:V->List V->Hp->VK->Prop)(to:TE):TE:=λσ H Q=>to σ H λx H1=>F2 K T x H1/\r x [] H1 Q
def pE(K:Frag)(T:String)(r:V->List V->Hp->VK->Prop)(to:TE)(t:TA):TE:=λσ H Q=>to σ H λx H1=>F2 K T x H1/\t σ H1 λxs H2=>r x xs H2 Q
variable {o e:Expr}{es:List Expr}{to:TE}{t:TA}{name:Str}{apos cpos:Pos}{T id:String}{r:V->List V->Hp->VK->Prop}
theorem pM(pa:PlainAttrs T)(slot:Slot T name id)(hty:typeOf (.builtin id)=pure (.type "method_descriptor"))(hm:vI X id r)(ho:PE X o to)
  (hbase:attributeBase o name X.env (eval o X.env)=eval o X.env:=by rfl) (hline:(apos.endLine==cpos.line)=true:=by rfl):PE X (.Call (.Attribute o name apos) [] [] cpos) (pz X.K T r to):=by
 intro pins s σ H Q I h;refine wpAny_Call_method0_late hbase hline (aX (ho pins s σ H _ I h) λv s1 ⟨x,H1,I1,r1,ty,q1⟩=>?_);obtain⟨h1,h2⟩:=Sg I1 r1 ty;exact⟨T,id,pa,slot,hty,h1,h2,Calls.callWith_builtin rfl (PySem.evalArgs_none (hm pins s1 σ H1 x [] v [] Q I1 r1 .nil q1))⟩
theorem pS(pa:PlainAttrs T)(slot:Slot T name id)(hty:typeOf (.builtin id)=pure (.type "method_descriptor"))(hm:vI X id r)(ho:PE X o to)(ha:PA X (e::es) t)
  (hbase:attributeBase o name X.env (eval o X.env)=eval o X.env:=by rfl)
  (hfew:((backTo cpos (starEach (e::es) X.env)).all (λx => !x.1)&&(backToKw cpos (keywordEach [] X.env)).all (λx=>x.1.isSome)
   && decide ((e::es).length+([]:List Keyword).length+(if([]:List Keyword).isEmpty then 0 else 1)<30))=true:=by rfl)
  (hline:(apos.endLine==cpos.line)=true:=by rfl) (hs:starEach (e::es) X.env=(false,eval e X.env)::starEach es X.env:=by rfl) (hplain:(backTo cpos (starEach es X.env)).any (·.1)=false:=by rfl):
  PE X (.Call (.Attribute o name apos) (e::es) [] cpos) (pE X.K T r to t):=by
 intro pins s σ H Q I h;refine wpAny_Call_method_late hbase hfew hline rfl (aX (ho pins s σ H _ I h) λv s1 ⟨x,H1,I1,r1,ty,q1⟩=>?_);obtain⟨h1,h2⟩:=Sg I1 r1 ty;refine⟨T,id,pa,slot,hty,h1,h2,?_⟩;have hA:=ha cpos pins s1 σ H1 _ I1 q1;rw[hs] at hA ⊢
 refine Calls.callWith_builtin (by show(false||(backTo cpos (starEach es X.env)).any (·.1))=false;rw[hplain]<;>rfl) (Calls.evalArgs_plain ?_);exact aX hA λus s2 ⟨vs,H2,I2,r2,q2⟩=>hm pins s2 σ H2 x vs v us Q I2 r1 r2 q2
end
def F3(X:Cx)(id:String)(r:V->List V->Hp->VK->Prop):Prop:=
 ∀(pins:c7) (s:Shared) (σ:St) (H:Hp) (x:V) (xs:List V) (v:Value) (us:List Value) (Q:VK),Inv X pins σ H s->RelV x v->Vals xs us->r x xs H Q->
  wpAny (model X.prog X.w) X.A (call (.builtin id) (v::us)) (EP X pins σ Q) X.xe s
theorem Vals.one:∀ {x:V} {us:List Value},Vals [x] us->∃u,us=[u]/\RelV x u
 |_,_,.cons r .nil=>⟨_,rfl,r⟩
theorem Vals.zero:∀ {us:List Value},Vals [] us->us=[]
 |_,.nil=>rfl
theorem Vals.dropLast{xs:List V}{us:List Value}(h:Vals xs us):Vals xs.dropLast us.dropLast:=by
 induction h with
 |nil=>exact .nil
 |cons r t ih=>
  cases t with
  |nil=>exact .nil
  |cons q t'=>exact .cons r ih
theorem Vals.rep{xs:List V}{us:List Value}(h:Vals xs us):∀k:Nat,Vals (List.replicate k xs).flatten (List.replicate k us).flatten
 |0=>.nil
 |k+1=>by
  rw[replicate_succ,replicate_succ,flatten_cons,flatten_cons];exact Vals.append h (Vals.rep h k)
theorem pT{α:Type}(l:List α):l.eraseIdx (l.length - 1)=l.dropLast:=by
 induction l with
 |nil=>rfl
 |cons a r ih=>
  cases r with
  |nil=>rfl
  |cons b r=>
   have e:(a::b::r).length - 1=((b::r).length - 1)+1:=by
    have h1:(a::b::r).length=r.length+2:=rfl;have h2:(b::r).length=r.length+1:=rfl;omega
   rw[e,List.eraseIdx_cons_succ,ih]
   all_goals rfl
theorem zm1(its:List Value):∀(k:Nat) (acc:List Value),
  foldl (λx1 x2=>x1++x2) acc.toArray (List.replicate k its.toArray)=(acc++(List.replicate k its).flatten).toArray
 |0,acc=>by simp
 |k+1,acc=>by
  have e:acc.toArray++its.toArray=(acc++its).toArray:=by simp
  have e2:(acc++its)++(List.replicate k its).flatten=acc++(List.replicate (k+1) its).flatten:=by
   rw[replicate_succ,flatten_cons,append_assoc]
  rw[<-e2,<-zm1 its k (acc++its),<-e,replicate_succ,List.foldl_cons]
section
variable {X:Cx}{pins:c7}{σ:St}{H:Hp}{s:Shared}{l b:Addr}{xs ys zs:List V}
theorem Inv.F4{its its':List Value}{n:Nat}{f:Array Value->Array Value}{t':Nat}(I:Inv X pins σ H s)(hH:H l=some (.lst xs))
  (e:s.heap.get? l=some { cls:=.type "list",data:=.seq its.toArray n }) (hf:f its.toArray=its'.toArray) (hv:Vals ys its') (hz:ys.length<=sizeLine):
  Inv X pins σ (upd H l (.lst ys)) { s with heap:=s.heap.update l (Obj.mapSeq f),toks:=t' }:=by
 have q:=PySem.IsL.update e f;rw[hf] at q
 refine I.write (x:=l) (e:=l) (by rw[hH];exact trivial) (.inl rfl) (λb' u hb hu=>(Heap.get?_update_other s.heap (Obj.mapSeq f) (Ne.symm hb)).trans hu) ⟨_,q⟩ ?_;exact⟨hz,its',_,hv,q⟩
theorem Inv.Sh{its:List Value}{t':Nat}(I:Inv X pins σ H s)(hv:Vals ys its)(hz:ys.length<=sizeLine):
  Inv X pins σ (upd H s.heap.objs.size (.lst ys)) { s with heap:=s.heap.push { cls:=.type "list",data:=.seq its.toArray },toks:=t' }:=
 I.laid (λ_ _ q=>Heap.get?_push_of_some _ q) (le_refl _) ⟨hz,its,0,hv,Heap.get?_push_size _ rfl⟩
theorem Inv.fresh(I:Inv X pins σ H s):H s.heap.objs.size=none:=I.hok.fresh (le_refl _)
theorem Inv.uo(I:Inv X pins σ H s)(hH:H l=some (.lst xs)):xs.length<=sizeLine/\∃(its:List Value) (n:Nat),Vals xs its/\xs.length=its.length/\s.heap.get? l=some { cls:=.type "list",data:=.seq its.toArray n }:=by
 obtain⟨z,its,n,r,e⟩:=I.hok l _ hH;exact⟨z,its,n,r,r.length,e⟩
theorem Ss{n:Nat}(h:n<=sizeLine):Builtin.List.listTooLong n=false:=by
 unfold Builtin.List.listTooLong;exact decide_eq_false (by omega)
end
section
variable {X:Cx}
inductive Sv(x:V)(vs:List V)(H:Hp)(Q:VK):Prop
 |mk (l:Addr) (xs:List V) (y:V) (a:x=.ref l) (b:vs=[y]) (h:H l=some (.lst xs)) (c:xs.length<sizeLine) (q:Q .non (upd H l (.lst (xs++[y])))):Sv x vs H Q
theorem ju:F3 X "list.append" Sv:=by
 intro pins s σ H x vs v us Q I rx rv h;obtain⟨l,xs,y,rfl,rfl,hH,hz,q⟩:=h;cases rx;obtain⟨u,rfl,ru⟩:=rv.one;obtain⟨z,its,n,r,hl,e⟩:=I.uo hH;refine call_meets F.slot_list_append ⟨_,e,rfl⟩ F.entry_list_append (F.args_list_append_2 _ _) (PySem.list_append l its.toArray n u (by rw[size_toArray];omega)) ⟨e,?_⟩;refine⟨.non,_,I.F4 (its':=its++[u]) hH e (by simp) (r.append (.cons ru .nil)) ?_,rfl,q⟩;rw[length_append,length_singleton];omega
def pV:V->List V->Hp->VK->Prop:=λx vs H Q=>∃l b xs zs,x=.ref l/\vs=[.ref b]/\H l=some (.lst xs)/\H b=some (.lst zs)/\xs.length+zs.length<=sizeLine/\Q .non (upd H l (.lst (xs++zs)))
theorem qZ:F3 X "list.extend" pV:=by
 intro pins s σ H x vs v us Q I rx rv h;obtain⟨l,b,xs,zs,rfl,rfl,hH,hB,hz,q⟩:=h;cases rx;obtain⟨u,rfl,ru⟩:=rv.one;cases ru;obtain⟨z,its,n,r,hl,e⟩:=I.uo hH;obtain⟨z2,its2,n2,r2,hl2,e2⟩:=I.uo hB;have hsz:its.toArray.size+its2.toArray.size<=sizeLine:=by rw[size_toArray,size_toArray];omega
 have F5:¬(!its.toArray.isEmpty&&Builtin.List.listTooLong (its.toArray.size+its2.toArray.size))=true:=by
  rw[Ss hsz,Bool.and_false];exact Bool.false_ne_true
 refine call_meets F.slot_list_extend ⟨_,e,rfl⟩ F.entry_list_extend (F.args_list_extend_2 _ _)
  (AutoSeq1.list_extend_list_list_0 l its.toArray n b its2.toArray n2 F5 (by rw[size_toArray];omega) (by omega)) ⟨e,e2,?_⟩
 refine⟨.non,_,I.F4 (its':=its++its2) hH e (by simp) (r.append r2) ?_,rfl,q⟩;rw[length_append];omega
inductive Sw(x:V)(vs:List V)(H:Hp)(Q:VK):Prop
 |mk (l:Addr) (xs:List V) (y:V) (a:x=.ref l) (b:vs=[]) (h:H l=some (.lst xs)) (c:xs[xs.length - 1]? = some y) (q:Q y (upd H l (.lst xs.dropLast))):Sw x vs H Q
theorem uq:F3 X "list.pop" Sw:=by
 intro pins s σ H x vs v us Q I rx rv h;obtain⟨l,xs,y,rfl,rfl,hH,hy,q⟩:=h;cases rx;have hus:=rv.zero;subst hus;obtain⟨z,its,n,r,hl,e⟩:=I.uo hH;obtain⟨u,hu,ru⟩:=r.get hy;have hy':its.toArray[its.toArray.size - 1]? = some u:=by
  show its.toArray[its.length - 1]? = some u;rw[<-Array.getElem?_toList,<-hl];exact hu
 refine call_meets F.slot_list_pop ⟨_,e,rfl⟩ F.entry_list_pop (F.args_list_pop_1 _) (MeetsSeq.list_pop_last l its.toArray n u hy' (by rw[size_toArray];omega)) ⟨e,?_⟩;refine⟨y,_,I.F4 (its':=its.dropLast) hH e ?_ r.dropLast ?_,ru,q⟩
 ·show its.toArray.eraseIdxIfInBounds (its.toArray.size - 1)=its.dropLast.toArray
  rw[size_toArray,List.eraseIdxIfInBounds_toArray,pT]
 ·rw[List.length_dropLast]
  omega
def F6:R2:=λx y H Q=>∃l b xs zs,x=.ref l/\y=.ref b/\H l=some (.lst xs)/\H b=some (.lst zs)/\xs.length+zs.length<=sizeLine/\∀p,H p=none->Q (.ref p) (upd H p (.lst (xs++zs)))
theorem rA:gC X (binaryOp .Add) F6:=by
 intro pins s σ H x y v u Q I rx ry h;obtain⟨l,b,xs,zs,rfl,rfl,hH,hB,hz,q⟩:=h;cases rx;cases ry;obtain⟨z,its,n,r,hl,e⟩:=I.uo hH;obtain⟨z2,its2,n2,r2,hl2,e2⟩:=I.uo hB;refine PySem.P.add_list e e2 ?_ (by rw[size_toArray,size_toArray];omega);have ea:its.toArray++its2.toArray=(its++its2).toArray:=by simp
 rw[ea];exact⟨.ref _,_,I.Sh (t':=s.toks) (r.append r2) (by rw[length_append];omega),rfl,q _ I.fresh⟩
def qc:R2:=λx y H Q=>∃l k xs,x=.ref l/\y=.int k/\H l=some (.lst xs) /\ -(2 ^ 63)<=k/\k<2 ^ 63/\xs.length*k.toNat<=sizeLine/\
 ∀p,H p=none->Q (.ref p) (upd H p (.lst (List.replicate k.toNat xs).flatten))
theorem zm9{α:Type}(xs:List α)(k:Nat):(List.replicate k xs).flatten.length=k*xs.length:=by
 induction k with
 |zero=>simp
 |succ k ih=>rw[replicate_succ,flatten_cons,length_append,ih,Nat.succ_mul,Nat.add_comm]
theorem qf:gC X (binaryOp .Mult) qc:=by
 intro pins s σ H x y v u Q I rx ry h;obtain⟨l,k,xs,rfl,rfl,hH,h1,h2,hz,q⟩:=h;cases rx;obtain⟨t,rfl⟩:=ry;obtain⟨z,its,n,r,hl,e⟩:=I.uo hH;have hlen:its.toArray.size*k.toNat<=sizeLine:=by rw[size_toArray,<-hl];exact hz
 have hcap:¬its.toArray.size*k.toNat > (2 ^ 63 - 1) / 8:=by
  have:(sizeLine:Nat)<=(2 ^ 63 - 1) / 8:=by decide
  omega
 have hfit:¬(!Builtin.List.listFitsIndex k)=true:=by
  rw[fitsIndex_both h1 h2];exact Bool.false_ne_true
 have F5:¬Builtin.List.listTooLong (its.toArray.size*k.toNat)=true:=by
  rw[Ss hlen];exact Bool.false_ne_true
 have hnew:foldl (λx1 x2=>x1++x2) #[] (List.replicate (if its.toArray.isEmpty=true then 0 else k.toNat) its.toArray)=(List.replicate k.toNat its).flatten.toArray:=by
  have f0:∀m:Nat,foldl (λx1 x2=>x1++x2) #[] (List.replicate m its.toArray)=(List.replicate m its).flatten.toArray:=λm=>by
   have:=zm1 its m [];rw[List.nil_append] at this
   exact this
  rw[f0];cases its with
  |nil=>simp
  |cons a r'=>rw[if_neg (by simp)]
 refine wpAny_binaryOp_repeat_ref (T:="list") (U:="int") (by decide) ⟨_,e,rfl⟩ (λs'=>typeIs_int s' k t) noFill_list_mul F.fills_int_mul F.slot_int_rmul repeat_list F.slot_int_index.lookup
  (call_meets F.slot_int_rmul (typeIs_int s k t) F.entry_int_rmul (F.args_int_rmul_2 _ _) (int___rmul___int_list k t l its.toArray n)
   ⟨e,rfl,⟨_,e,rfl⟩,call_meets F.slot_list_mul ⟨_,e,rfl⟩ F.entry_list_mul (F.args_list_mul_2 _ _) (AutoListH.list___mul___list_int_3 l its.toArray n k t hfit hcap F5) ⟨e,?_⟩⟩)
 rw[hnew];exact⟨.ref _,_,I.Sh (t':=s.toks) (r.rep k.toNat) (by rw[zm9,mul_comm];exact hz),rfl,q _ I.fresh⟩
end
end L2
namespace Sx
open PySem PySem.W PySem.Calls PyProof.Rows
theorem qh{P:Params}{h:Heap}:∀(ns:List Int) (vs:List Value),WellAll P h vs (ns.map WData.int)->IntsAre vs ns:=by
 intro ns
 induction ns with
 |nil=>
  intro vs w;rw[map_nil] at w
  cases w;exact .nil
 |cons n ns ih=>
  intro vs w;rw[map_cons] at w
  cases w with
  |cons a b=>
   cases a;exact .cons _ _ (ih _ b)
theorem qi{l:OpenLaw}{n:Nat}(hn:l.most=some n){P:Params}{h:Heap}{args:List WData}{vals:List Value}
  (hpre:l.row.toRowW.claim.pre args=true) (hwl:WellAll P h vals args):
  ∃a vs ns,vals=[Value.ref a]/\args=[WData.list (ns.map WData.int)]/\h.get? a=some { cls:=.type "list",data:=.seq vs.toArray }/\IntsAre vs ns/\ns.length<=n:=by
 have hsh:WShape.hasAll [] args [.list .int]=true:=(pre_splitW hpre).1;have hc:l.pre.holds [] { args:=args }=true:=(pre_splitW hpre).2;obtain⟨d,r,rfl,h1,h2⟩:=hasAllW_cons hsh;obtain rfl:=hasAllW_nil h2;obtain⟨xs,rfl,h3⟩:=hasW_list h1;obtain⟨ns,rfl⟩:=items_int h3;have hlen:ns.length<=n:=by
  unfold OpenLaw.pre at hc
  have h4:(WTm.not (.lt (.lit (.int (n:Int))) (.len (.arg 0)))).holds [] { args:=[.list (ns.map .int)] }=true:=by
   have h4:=(holds_andW hc).1;rw[hn] at h4
   exact h4
  have h5:=condW_of h4 (w_not (w_lt w_lit (w_len_list (w_arg rfl))));rw[length_map] at h5
  refine Nat.le_of_not_lt λq=>?_
  have q':(n:Int)<((ns.length:Nat):Int):=by omega
  first
   |(rw[decide_eq_true q'] at h5;exact absurd h5 (by decide))
   |(simp at h5;omega)
 cases hwl with
 |cons w1 w2=>
  cases w2;cases w1 with
  |list ho hall=>exact⟨_,_,ns,rfl,rfl,ho,qh ns _ hall,hlen⟩
theorem qk(l:OpenLaw)(args:List WData):l.row.toRowW.claim.post args (.bool true) args=true:=
 postW_of (r:=l.row.toRowW) (X:=(true==true))
  (show WShape.has [] (.bool true) .bool=true by first|rfl|decide|simp[WShape.has,WShape.arms,WShape.armsAll])
  (show(WTm.eq .res (.lit (.bool true))).value [] { args:=args,res:=some (.bool true),after:=args }=some (.bool (true==true)) from w_eq_bool (w_res rfl) w_lit) rfl
theorem qo{l:OpenLaw}{n:Nat}{q:Program}{loose:List Str}{XP:(Str->Option Value)->Heap->Prop}{YP:World->Heap->Prop}{d:DefRec}
  (hn:l.most=some n) (hdf:d.params.defaults=[])
  (call:∀(w:World) (s₀ s₁:Shared) (mg mb:eV) (fa:Addr) (o:Obj) (pm cd doc:Value) (a:Addr) (vs:List Value) (ns:List Int),
   Ground q loose [] XP w s₀ mg mb s₁.heap->YP w s₁.heap->
   s₁.heap.get? fa=some o->o.data=.func (docDef d.name d.params d.body d.scope pm cd doc)->s₁.heap.CodeRec cd d.name->mg d.name=some (.ref fa)->
   s₁.heap.get? a=some { cls:=.type "list",data:=.seq vs.toArray }->IntsAre vs ns->ns.length<=n->s₁.gens = #[]->
   codeAny (model l.prog w) callerA (.call (.ref fa) ⟨[.ref a],[]⟩) (λr s'=>r=.ok (.ret (.bool true))/\OldK s₁.heap s'.heap/\s'.os=s₁.os/\AllBare s'.gens) s₁):
  WalkO q loose XP YP l.row.toRowW d [] (λf vs=>PySem.call f vs):=by
 intro w s₀ s₁ mg mb G Y fa o pm cd doc dV kV ho hd hcd hD hmg hg args vals as hpre hlay hrd hwl hlo;obtain rfl:dV=.none:=Dflts.none hD hdf;obtain rfl:kV=.none:=Dflts.noKw hD;obtain⟨a,vs,ns,rfl,rfl,hobj,hints,hlen⟩:=qi hn hpre hwl;refine enter_call (codeAny_mono (call w s₀ s₁ mg mb fa o pm cd doc a vs ns G Y ho (fd_plain hd) hcd hmg hobj hints hlen hg) λr s' hq=>?_);obtain⟨rfl,h2,h3,h4⟩:=hq;exact⟨.inl ⟨.bool true,.bool true,[],rfl,λ_=>rfl,.bool true,qk l _,λ_=>⟨List.Pairwise.nil,λ_ hm=>(nomatch hm)⟩⟩,h2,h3,h4⟩
end Sx
namespace L2
open PySem PySem.Spec PyProof.Rows
theorem Sy:∀ {vs:List Value} {ns:List Int},IntsAre vs ns->Vals (ns.map V.int) vs
 |_,_,.nil=>.nil
 |_,_,.cons n t h=>.cons ⟨t,rfl⟩ (Sy h)
def Only(H:Hp):Prop:=∀b,H b=none\/∃o xs,H b=some (.d6 o (.lst xs))
theorem qq{P:Program}{w:World}{K:Frag}{mg mb:eV}{CX:jt}{k:Nat}{fa a:Addr}{fd:FuncData}{x:Str}{sp:Sp}{s₁:Shared}{vs:List Value}{ns:List Int}
  (KX:K.In s₁.heap) (hns:s₁.heap.Ns mainGlobals mg) (hb:s₁.heap.Ns builtinsNs mb) (hbb:∀x:Str,x≠"__name__"->mb x=bootBuiltins x) (hlim:s₁.heap.NoLimit) (hg:s₁.gens = #[])
  (ha:s₁.heap.get? a=some { cls:=.type "list",data:=.seq vs.toArray }) (hi:IntsAre vs ns) (hl:ns.length<=sizeLine) (hr:cZ k callerA)
  (F:∀base:Heap,K.In base->base.Ns mainGlobals mg->aH P w K mg base CX k fa fd [x] sp) (hbind:∀(s:Shared) (u:Value),BindsTo s fd ⟨[u],[]⟩ [(x,u)])
  (hsp:∀H:Hp,Only H->aG K H a (ns.map V.int)->sp [.ref a] H (λv _=>v=.bl true) λ_ _ _=>False)
  (F7:∀H e s',CX [] H s₁ (λ_ _ _=>False) e s'->False):
  codeAny (model P w) callerA (.call (.ref fa) ⟨[.ref a],[]⟩) (λr s'=>r=.ok (.ret (.bool true))/\OldK s₁.heap s'.heap/\s'.os=s₁.os/\AllBare s'.gens) s₁:=by
 have rv:=Sy hi;have zl6:=hi.length;have zk8:∀H:Hp,Only H->aG K H a (ns.map V.int)->eX P w H s₁.heap->(∀b,H b≠none->b=a)->(H a≠none->K.lookup a=none)->
   codeAny (model P w) callerA (.call (.ref fa) ⟨[.ref a],[]⟩) (λr s'=>r=.ok (.ret (.bool true))/\OldK s₁.heap s'.heap/\s'.os=s₁.os/\AllBare s'.gens) s₁:=by
  intro H hO hS hok hA hK;have SJ:∀ {b:Addr} {o:Obj},s₁.heap.get? b=some o->H b=none->(pL s₁.heap H).get? b=some o:=λe n=>dQ e n
  have yj:∀ {b:Addr} {o:Obj} {es:Array DictEntry} {ep:Nat},s₁.heap.get? b=some o->o.data=.dict es ep->H b=none:=λ{b o es ep} e d=>by
   cases q:H b with
   |none=>rfl
   |some u=>
    have e':b=a:=hA b (by rw[q];simp);subst e';rw[ha] at e;cases e
    have d':Data.seq vs.toArray _=Data.dict es ep:=d;cases d'
  have B8:∀ {b:Addr} {m:eV},s₁.heap.Ns b m->(pL s₁.heap H).Ns b m:=λ{b m} ⟨o,es,ep,e,d,r⟩=>⟨o,es,ep,SJ e (yj e d),d,r⟩
  have SM:K.In (pL s₁.heap H):=λb o e=>SJ (KX b o e) (by
   cases q:H b with
   |none=>rfl
   |some u=>
    have e':b=a:=hA b (by rw[q];simp);subst e'
    rw[hK (by rw[q];simp)] at e;cases e)
  have hM:Mod K mg (pL s₁.heap H):=⟨SM,B8 hns,⟨mb,B8 hb,hbb⟩,let ⟨mc,h1,h2⟩:=hlim;⟨mc,B8 h1,h2⟩⟩;have e0:uh P w K mg (pL s₁.heap H) callerA [] s₁ H:=⟨rfl,hM,λb o e=>dS e,le_of_eq (dL _ _),trivial,λb hb=>absurd (show b∈([]:List Addr) from hb) (by simp),hok,.of_eq hg⟩;refine codeAny_mono ((F _ SM (B8 hns)).run callerA [] s₁ H ⟨[.ref a],[]⟩ [.ref a] [.ref a] _ _ hr e0 (hbind s₁ (.ref a)) (.cons rfl .nil) (hsp H hO hS)) λr s' h=>?_
  cases r with
  |error e=>exact(F7 H e s' h).elim
  |ok fl=>
   cases fl with
   |next=>exact False.elim h
   |brk=>exact False.elim h
   |cont=>exact False.elim h
   |ret u=>
    obtain⟨v,H',os,bare,un,hok',r',q⟩:=h;have q':v=.bl true:=q;subst q';obtain rfl:u=Value.bool true:=r';refine⟨rfl,OldK.of_keep λb o e=>?_,os,bare⟩;cases q:H b with
    |none=>exact un.keep b o e q (by intro z;exact absurd (show b∈([]:List Addr) from z) (by simp)) (by simp)
    |some u=>
     rcases hO b with z|⟨ob,xs,z⟩
     ·rw[q] at z;cases z
     ·have z2:=un.lH b ob _ z
      obtain⟨e1,_⟩:=hok b _ z;obtain⟨e2,_⟩:=hok' b _ z2;rw[e] at e1;cases e1
      exact e2
 cases hk:K.lookup a with
 |some o=>
  have e:=KX a o hk;rw[ha] at e
  cases e;refine zk8 (λ_=>none) (λ_=>.inl rfl) (.inr ⟨_,vs.toArray,_,hk,rfl,rfl,rfl,by rw[size_toArray,zl6];exact hl,by simpa using rv⟩) (λb u z=>by have z':(none:Option HO)=some u:=z;cases z') (λb z=>absurd rfl z) λz=>absurd rfl z
 |none=>
  refine zk8 (λb=>if b=a then some (.d6 { cls:=.type "list",data:=.seq vs.toArray } (.lst (ns.map V.int))) else none) (λb=>?_) (.inl (.inr ⟨{ cls:=.type "list",data:=.seq vs.toArray },if_pos rfl⟩)) (λb u z=>?_) (λb z=>?_) λ_=>hk
  ·by_cases hb:b=a
   ·exact .inr ⟨_,_,if_pos hb⟩
   ·exact .inl (if_neg hb)
  ·by_cases hb:b=a
   ·have z':=(if_pos hb).symm.trans z
    cases z';subst hb;exact⟨ha,by rw[length_map];exact hl,vs,_,rv,ha⟩
   ·have z':=(if_neg hb).symm.trans z
    cases z'
  ·by_cases hb:b=a
   ·exact hb
   ·exact absurd (if_neg hb) z
theorem qv{l:PySem.W.OpenLaw}{n k:Nat}{q:Program}{loose:List Str}{XP:(Str->Option Value)->Heap->Prop}{YP:World->Heap->Prop}{d:DefRec}{K:Params->Frag}{CX:World->jt}{sp:World->Sp}{x:Str}
  (hn:l.most=some n) (hn2:n<=sizeLine) (hdf:d.params.defaults=[]) (hr:cZ k callerA)
  (hY:∀(w:World) (h:Heap),YP w h->(K w.params).In h)
  (F:∀(w:World) (mg:eV) (fa:Addr) (h:Heap),(K w.params).In h->h.Ns mainGlobals mg->mg d.name=some (.ref fa)->
   ∃fd:FuncData,(∀(s:Shared) (u:Value),BindsTo s fd ⟨[u],[]⟩ [(x,u)])/\
    ∀base:Heap,(K w.params).In base->base.Ns mainGlobals mg->aH l.prog w (K w.params) mg base (CX w) k fa fd [x] (sp w))
  (hsp:∀(w:World) (H:Hp) (a:Addr) (ns:List Int),ns.length<=n->Only H->aG (K w.params) H a (ns.map V.int)->sp w [.ref a] H (λv _=>v=.bl true) λ_ _ _=>False)
  (F7:∀(w:World) (H:Hp) (s:Shared) (e:Value) (s':Shared),CX w [] H s (λ_ _ _=>False) e s'->False):
  PySem.W.WalkO q loose XP YP l.row.toRowW d [] (λf vs=>PySem.call f vs):=by
 refine Sx.qo hn hdf λw s₀ s₁ mg mb fa o pm cd doc a vs ns G Y ho hd hcd hmg hobj hints hlen hg=>?_
 have KX:=hY w _ Y;obtain⟨fd,hb,hF⟩:=F w mg fa _ KX G.T.g hmg;exact qq KX G.T.g G.T.b G.T.builtins G.T.nolimit hg hobj hints (le_trans hlen hn2) hr hF hb (λH hO hS=>hsp w H a ns hlen hO hS) λH e s'=>F7 w H s₁ e s'
def zk5(s:Stmt)(j:Nat):Stmt:=match s with
 |.ClassDef _ _ _ body _ _ _ _ _ _ _=>body.getD j (.Pass ⟨0,0,0,0⟩)
 |_=>.Pass ⟨0,0,0,0⟩
def vJ(s:Stmt):Arguments:=match s with
 |.FunctionDef _ a _ _ _ _ _ _ _ _=>a
 |_=>{ posonlyargs:=[],args:=[],vararg:=none,kwonlyargs:=[],kw_defaults:=[],kwarg:=none,defaults:=[] }
def rB(s:Stmt):List Stmt:=match s with
 |.FunctionDef _ _ b _ _ _ _ _ _ _=>b
 |_=>[]
def cg(s:Stmt):Scope:=match s with
 |.FunctionDef _ _ _ _ _ _ sc _ _ _=>sc
 |_=>{ kind:=.function,names:=[],isGenerator:=false,isCoroutine:=false }
abbrev aB:jt:=λ_ _ _ _ _ _=>False
abbrev E0:XK:=λ_ _ _=>False
theorem aU{X:Cx}:Passes aB X E0:=λ_ _ _ _ _ _ _ h=>h.elim
structure cA(K:Frag)(x qual:Str)(st:Stmt)(f:Addr)(fd:FuncData):Prop where
 ex:∃(oc:Value) (od:Option Addr) (kV doc pm:Value) (an:Option Addr) (cdv ct:Value) (osl:Array (Option Value)),
  fd=fnOf x qual (vJ st) (rB st) (cg st) .none kV doc pm an cdv ct/\K.lookup f=some ⟨oc,od,.func fd,osl⟩/\codeIn K cdv qual=true
 kp:keepIn K (.ref f)=true
section
variable {P:Program}{w:World}{K:Frag}{mg:eV}{base:Heap}
theorem cA.ok{x qual:Str}{st:Stmt}{f:Addr}{fd:FuncData}{N ps:List Str}{k:Nat}{sp:Sp}(F:cA K x qual st f fd)(S:cQ N ps (cg st))(len:∀vs H Q E,sp vs H Q E->vs.length=ps.length)
  (hbody:∀(cdv:Value) (A:Around) (outer:List Env) (s:Shared) (H:Hp) (vs:List V) (Q:VK) (E:XK),cZ k (A.deeper (envOfC qual (cg st) s.heap.objs.size f cdv))->sp vs H Q E->
   ∃t,jk (lJ aB P w K mg base N qual (cg st) f cdv A outer s H E).B1 (rB st) t/\t { nx:=λ_ H'=>Q .non H',rt:=Q } (start N vs) H):aH P w K mg base aB (k+1) f fd ps sp:=by
 obtain⟨oc,od,kV,doc,pm,an,cdv,ct,osl,rfl,lk,hcd⟩:=F.ex;refine RN lk hcd S len λA outer s H vs Q E hr hsp=>?_
 obtain⟨t,h,q⟩:=hbody cdv A outer s H vs Q E hr hsp;exact⟨t,h.B1,q⟩
theorem cA.binds{x qual:Str}{st:Stmt}{f:Addr}{fd:FuncData}{ps:List Str}(F:cA K x qual st f fd)
  (h:∀(kV doc pm:Value) (an:Option Addr) (cdv ct:Value) (us:List Value),us.length=ps.length->bindArgs (fnOf x qual (vJ st) (rB st) (cg st) .none kV doc pm an cdv ct) ⟨us,[]⟩=pure (ps.zip us)):Binds K fd ps []:=by
 obtain⟨oc,od,kV,doc,pm,an,cdv,ct,osl,rfl,lk,hcd⟩:=F.ex;exact .all (h kV doc pm an cdv ct)
theorem SN{x qual:Str}{st:Stmt}{f:Addr}{oc:Value}{od an:Option Addr}{osl:Array (Option Value)}{kV doc pm cdv ct:Value}(l:K.lookup f=some ⟨oc,od,.func (fnOf x qual (vJ st) (rB st) (cg st) .none kV doc pm an cdv ct),osl⟩)
  (c:codeIn K cdv qual=true) (k:keepIn K (.ref f)=true):cA K x qual st f (fnOf x qual (vJ st) (rB st) (cg st) .none kV doc pm an cdv ct):=⟨⟨oc,od,kV,doc,pm,an,cdv,ct,osl,rfl,l,c⟩,k⟩
end
theorem qA{A:Around}{k:Nat}(hr:cZ k A):A.units+1<cLine:=Nat.lt_of_le_of_lt (add_le_add_left (by decide:1<=64) _) hr.units
theorem SQ{n:Nat}(h:n<=1000):n<sizeLine:=Nat.lt_of_le_of_lt h (by decide)
section
variable {X:Cx}
theorem pv(i:Nat){x:Str}{pos:Pos}(hN:X.N[i]? = some x:=by rfl)(hv:xV X.env.scope x:=by first|exact Or.inl rfl|exact Or.inr (Or.inl rfl)|exact Or.inr (Or.inr rfl))(hd:(x==("__debug__":Str))=false:=by decide)
  (hcd:(x==("__classdict__":Str))=false:=by decide):PE X (.Name x pos) (jB i):=eI hN hv hd hcd
end
theorem gM{A B:Prop}(h:B):if false=true then A else B:=by
 rw[if_neg Bool.false_ne_true];exact h
theorem fu{A B:Prop}(h:A):if true=true then A else B:=by
 rw[if_pos rfl];exact h
theorem jH{c A B:Prop}[Decidable c](h1:c->A)(h2:¬c->B):if c then A else B:=by
 by_cases h:c
 ·rw[if_pos h]
  exact h1 h
 ·rw[if_neg h]
  exact h2 h
def Same(H H':Hp):Prop:=∀b o,H b=some o->H' b=some o
theorem Same.refl(H:Hp):Same H H:=λ_ _ h=>h
theorem Same.trans{H H1 H2:Hp}(a:Same H H1)(b:Same H1 H2):Same H H2:=λc o h=>b c o (a c o h)
theorem Same.free{H H':Hp}(e:Same H H'){l:Addr}(h:H' l=Option.none):H l=Option.none:=by
 cases q:H l with
 |none=>rfl
 |some o=>
  rw[e l o q] at h
  cases h
theorem Same.seq{K:Frag}{H H':Hp}{a:Addr}{xs:List V}(e:Same H H')(h:aG K H a xs):aG K H' a xs:=by
 rcases h with(h|⟨o,h⟩)|h
 ·exact .inl (.inl (e _ _ h))
 ·exact .inl (.inr ⟨o,e _ _ h⟩)
 ·exact .inr h
section
variable {prog:Program}{w:World}{A:Around}{R:Result->Shared->Prop}{s:Shared}
theorem qB{elt target iter:Expr}{ifs:List Expr}{scope:Scope}{pos:Pos}{it acc:Value}{env:Env}(I:Nat->Shared->Prop)
  (turn:∀n s,I n s->wpAny (model prog w) A (pyNext it) (λr s₁=>match r with
   |none=>R (.ok .next) s₁
   |some v=>wpAny (model prog w) A (letOwnedTupleGo target it v) (λ_ s₁'=>wpAny (model prog w) A (assign target env v) (λ_ s₂=>
     wpAny (model prog w) A (forIn ifs true λc r=>if r=true then do let ok <-isTrue c env (eval c env);pure (ForInStep.yield ok) else pure (ForInStep.yield r)) (λok s₃=>
      if ok=true then wpAny (model prog w) A (eval elt env) (λx s₄=>
       wpAny (model prog w) A (call (.builtin "list.append") [acc,x]) (λ_ s₅=>∃m,m<n/\I m s₅) (λ_ _=>False) s₄) (λ_ _=>False) s₃
      else ∃m,m<n/\I m s₃) (λ_ _=>False) s₂) (λ_ _=>False) s₁') (λ_ _=>False) s₁) (λ_ _=>False) s)
  (n:Nat) (h:I n s):
  codeAny (model prog w) A (.compLoop (.ListComp elt [⟨target,iter,ifs,0⟩] scope pos) 0 it acc env) R s:=by
 refine codeAny_loop rfl I (λn s hI=>?_) n h;show wpAny _ A ((compTurn (.ListComp elt [⟨target,iter,ifs,0⟩] scope pos) 0 it acc env).onRaise (λx=>do noteFrame x env;theTreesLotGoes x)) _ _ s;refine wpAny_noted ?_;rw[compTurn_list];refine wpAny_bind (wpAny_standAt (wpAny_bind (wpAny_mono (turn n s hI) (λr s₁ h₁=>?_) λ_ _ h'=>h'.elim)));cases r with
 |none=>exact wpAny_pure h₁
 |some v=>
  refine wpAny_bind (wpAny_mono h₁ (λ_ s₁' h₁'=>?_) λ_ _ h'=>h'.elim);refine wpAny_bind (wpAny_mono h₁' (λ_ s₂ h₂=>wpAny_bind (wpAny_mono h₂ (λok s₃ h₃=>?_) λ_ _ h'=>h'.elim)) λ_ _ h'=>h'.elim);cases ok with
  |false=>exact wpAny_pure ⟨rfl,h₃⟩
  |true=>
   exact wpAny_bind (wpAny_bind (wpAny_mono h₃ (λx s₄ h₄=>wpAny_bind (wpAny_mono h₄ (λ_ s₅ h₅=>wpAny_pure (wpAny_pure ⟨rfl,h₅⟩)) λ_ _ h'=>h'.elim)) λ_ _ h'=>h'.elim))
end
noncomputable def jl(X:Cx)(N':List Str)(scope:Scope)(cl:List (Str×Addr))(C:Addr)(fp:List Addr)(s:Shared)(H:Hp):Cx where
 prog:=X.prog
 w:=X.w
 K:=X.K
 mg:=X.mg
 base:=X.base
 A:=X.A
 N:=N'
 s₀:=s
 H₀:=H
 env:=compEnvC scope cl C X.env
 outer:=X.stack
 stack:=X.stack
 ex:=fp
 fn:=λ_=>false
 calm:=X.calm
 pn:=[]
 xe:=λ_ _=>False
def oN(js:List Nat)(σ:St):St:=js.map λj=>(σ[j]?).join
def yu(X:Cx)(ifs:List Expr)(t:TT):Prop:=
 ∀(pins:c7) (s:Shared) (σ:St) (H:Hp) (Q:Bool->Hp->Prop),Inv X pins σ H s->t σ H Q->
  wpAny (model X.prog X.w) X.A (forIn ifs true λc r=>if r=true then do let ok <-isTrue c X.env (eval c X.env);pure (ForInStep.yield ok) else pure (ForInStep.yield r)) (TP X pins σ Q) X.xe s
def ur:TT:=λ_ H Q=>Q true H
theorem uw{X:Cx}:yu X [] ur:=λ_ _ _ H _ I h=>wpAny_tests_nil ⟨H,I,h⟩
theorem qE{X:Cx}{c:Expr}{tc:TT}(hc:PT X c tc):yu X [c] tc:=λpins s σ H Q I h=>wpAny_tests_one (hc pins s σ H Q I h)
def F8(js:List Nat)(wi:TI)(ti:TT)(te:TE):TE:=λσ H Q=>wi σ H λJ H1=>∀D,H1 D=none->
 ∃W:Nat->Nat->Hp->List V->Prop,(∃m,W 0 m (upd H1 D (.lst [])) [])/\∀i m H' ys,W i m H' ys->
  (J.stop i H'/\Q (.ref D) H')\/(J.go i H'/\∃N:Hp->List V->Prop,(∀H' ys',N H' ys'->∃m',m'<m/\W (i+1) m' H' ys')/\∀x H2,J.jC i H' x H2->ti (some x::oN js σ) H2 λb H4=>
    if b=true then te (some x::oN js σ) H4 λy H5=>H5 D=some (.lst ys)/\ys.length<sizeLine/\N (upd H5 D (.lst (ys++[y]))) (ys++[y])
    else N H4 ys)
section
variable {X:Cx}{elt iter:Expr}{ifs:List Expr}{scope:Scope}{pos px:Pos}{x:Str}{cl:List (Str×Addr)}{ys:List Str}{js:List Nat}{ti:TT}{te:TE}
structure vK(X:Cx)(scope:Scope)(cl:List (Str×Addr))(x:Str)(ys:List Str)(js:List Nat):Prop where
 clos:closureFor scope X.env=pure cl
 ux:∀y c,cl.lookup y=some c->X.env.cells.lookup y=some c
 F9:∀y∈scope.names,y.2≠.cell
 kind:scope.kind=.function
 locs:∀y∈scope.names,y.2=.local->scope.names.lookup y.1=some .local
 own:scope.names.lookup x=some .local
 nd:(x::ys).Nodup
 has:∀y,((relabel scope X.env).names.lookup y=some .cell\/(relabel scope X.env).names.lookup y=some .free)->∃c,cl.lookup y=some c
 len:ys.length=js.length
 out:∀(k j:Nat),js[k]? = some j->∃y,ys[k]? = some y/\X.N[j]? = some y/\(X.env.kindOf y=some .cell\/X.env.kindOf y=some .free)/\(∃c,cl.lookup y=some c)/\
  ((relabel scope X.env).names.lookup y=some .cell\/(relabel scope X.env).names.lookup y=some .free)
theorem qS{pins:c7}{σ:St}{H3:Hp}{s3:Shared}{h1:Heap}{fp:List Addr}{tk:Nat}(S:vK X scope cl x ys js)(I3:Inv X pins σ H3 s3)(hf:∀b∈fp,nR X pins H3 b)
  (ho:∀b∈fp,∃o,s3.heap.get? b=some o) (keep:∀b o,s3.heap.get? b=some o->h1.get? b=some o) (hns:∃m,h1.Ns s3.heap.objs.size m):
  Inv (jl X (x::ys) scope cl s3.heap.objs.size fp s3 H3) [] (none::oN js σ) H3 { s3 with heap:=h1,toks:=tk }:=by
 have ok:(jl X (x::ys) scope cl s3.heap.objs.size fp s3 H3).Ok:=by
  refine⟨I3.ok.mod,S.kind,I3.ok.glob,I3.ok.blt,le_refl _,λx y c e1 e2=>I3.ok.inj x y c (S.ux x c e1) (S.ux y c e2),S.has,(λ_ _ hx=>nomatch hx),I3.ok.hd,I3.ok.frames,.inl rfl,λb hb=>?_,I3.bs,le_trans I3.ok.oJ I3.sz,λb o e hb=>?_,λb hb hx=>?_,I3.stack,I3.E9⟩
  ·obtain⟨o,e⟩:=ho b hb
   exact⟨ne_of_lt (Heap.lt_size e),λx c e=>(hf b hb).2.2.2.2.1 x c (S.ux x c e)⟩
  ·rcases(hf b hb).2.2.2.1 with z|z
   ·exact I3.ok.xW b o e z
   ·exact absurd (lt_of_lt_of_le (Heap.lt_size e) (le_trans I3.ok.oJ z)) (lt_irrefl _)
  ·rcases List.mem_cons.mp (I3.xX b hx) with z|z
   ·exact(hf b hb).2.1 z
   ·exact(hf b hb).2.2.1 z
 obtain⟨m,hm⟩:=hns;refine⟨ok,rfl,I3.bare,Un.kept keep,⟨m,hm,λi y v e1 e2 _=>?_⟩,λy c e=>?_,I3.hok.fresh (le_refl _),λy c e=>I3.mX y c (S.ux y c e),λp hp=>absurd (show p∈([]:c7) from hp) (by simp),I3.hok.kept keep,?_⟩
 ·cases i with
  |zero=>exact absurd (show(some none:Option (Option V))=some (some v) from e2) (by simp)
  |succ k=>
   have e2':(js.map λj=>(σ[j]?).join)[k]? = some (some v):=e2;rw[getElem?_map] at e2'
   cases ej:js[k]? with
   |none=>rw[ej] at e2';cases e2'
   |some j=>
    rw[ej] at e2'
    have e3:(σ[j]?).join=some v:=Option.some.inj e2';have e4:σ[j]? = some (some v):=by
     cases q:σ[j]? with
     |none=>rw[q] at e3;cases e3
     |some o=>rw[q] at e3;exact congrArg some e3
    obtain⟨y',n1,n2,k1,⟨c,hc⟩,k2⟩:=S.out k j ej;have ey:y=y':=by
     have:some y=some y':=(show ys[k]? = some y from e1).symm.trans n1;exact Option.some.inj this
    subst ey;obtain⟨m',hn',hl'⟩:=I3.loc;have vis:xV X.env.scope y:=by
     rcases k1 with z|z
     ·exact .inr (.inl z)
     ·exact .inr (.inr z)
    obtain⟨u,r,l⟩:=hl' j y v n2 e4 vis;refine⟨u,r,?_⟩;rcases l with⟨kl,_⟩|⟨_,c',hc',hcell⟩
    ·rcases k1 with z|z
     ·rw[z] at kl;cases kl
     ·rw[z] at kl;cases kl
    ·have ec:c=c':=by
      have q:=S.ux y c hc;rw[hc'] at q
      exact(Option.some.inj q).symm
     subst ec;obtain⟨o,ho',hd'⟩:=hcell;exact .inr ⟨k2,c,hc,o,keep c o ho',hd'⟩
 ·obtain⟨v,o,ho',hd'⟩:=I3.cell y c (S.ux y c e)
  exact⟨v,o,keep c o ho',hd'⟩
 ·show(none::oN js σ).length=(x::ys).length
  simp[oN,S.len]
def qV(X:Cx)(pins:c7)(σ:St)(use:Option (Value->Sem Unit))(QQ:cJ)(Q:VK):Prop:=
 ∀(D C:Addr) (s7:Shared) (H7:Hp),(∀h',Heap.SameBut C s7.heap h'->Inv X pins σ H7 { s7 with heap:=h' })->(∃m,s7.heap.Ns C m)->nR X pins H7 C->X.s₀.heap.objs.size<=C->Q (.ref D) H7->
  compPost (model X.prog X.w) X.A X.xe use QQ (.ref D) C (.ok .next) s7
theorem SX{wi:TI}{use:Option (Value->Sem Unit)}{QQ:cJ}{cpos:Pos}(hcalm:X.calm=true)(S:vK X scope cl x ys js)(hi:PI X (.Name x px) iter wi)
  (ht:∀C fp s H,yu (jl X (x::ys) scope cl C fp s H) ifs ti) (he:∀C fp s H,PE (jl X (x::ys) scope cl C fp s H) elt te)
  (hs:∀x,foldedSetIterable iter X.env x=pure x) {pins:c7} {s:Shared} {σ:St} {H:Hp} {Q:VK} (I:Inv X pins σ H s) (h:F8 js wi ti te σ H Q) (rc:qV X pins σ use QQ Q):
  wpAny (model X.prog X.w) X.A (comprehension (.ListComp elt [⟨.Name x px,iter,ifs,0⟩] scope pos) scope X.env cpos (newList []) false (eval iter X.env) use) QQ X.xe s:=by
 refine wpAny_comprehension_free (use:=use) (cl:=cl) rfl hs S.clos S.kind S.locs ?_;refine aX (hi pins s σ H _ I h) λv s1 h1=>aX h1 λitv s2 h2=>?_
 obtain⟨it,fp,tn,J,H2,e,I2,T,st2,f2,rd⟩:=h2;subst e;refine wpAny_newObj_type ?_;have hD2:H2 s2.heap.objs.size=none:=I2.hok.fresh (le_refl _);have I3:Inv X pins σ (upd H2 s2.heap.objs.size (.lst [])) { s2 with heap:=s2.heap.push { cls:=.type "list",dict:=none,data:=.seq ([]:List Value).toArray } }:=
  I2.laid (t':=s2.toks) (λb u e=>Heap.get?_push_of_some _ e) (le_refl _) ⟨zero_le _,[],0,.nil,Heap.get?_push_size _ rfl⟩
 have f3:∀b∈fp,nR X pins (upd H2 s2.heap.objs.size (.lst [])) b:=λb hb=>by
  refine⟨?_,(f2 b hb).2⟩;obtain⟨o,e,_⟩:=T.obj 0 _ st2 b hb;rw[aJ (ne_of_lt (Heap.lt_size e))];exact(f2 b hb).1
 have st3:tn 0 (s2.heap.push { cls:=.type "list",dict:=none,data:=.seq ([]:List Value).toArray }):=T.keep _ _ _ st2 λb _ o e=>Heap.get?_push_of_some _ e
 have Fb:=rd s2.heap.objs.size hD2
 generalize s2.heap.objs.size=D at I3 f3 Fb ⊢
 generalize hH3:upd H2 D (.lst [])=H3 at I3 f3 Fb
 generalize hs3:({ s2 with heap:=s2.heap.push { cls:=.type "list",dict:=none,data:=.seq ([]:List Value).toArray } }:Shared)=s3 at I3 ⊢
 have T5:tn 0 s3.heap:=by rw[<-hs3];exact st3
 obtain⟨W,⟨m0,w0⟩,turn⟩:=Fb;refine wpAny_newFunctionEnv S.F9 (by intro y hy;simp at hy) (λh₁ hns₁ hsb₁=>?_) S.kind;have keep:∀b o,s3.heap.get? b=some o->h₁.get? b=some o:=λb o e=>by
  rw[hsb₁.2 b (ne_of_lt (Heap.lt_size e))];exact Heap.get?_push_of_some _ e
 have hof:∀b∈fp,∃o,s3.heap.get? b=some o:=λb hb=>by
  obtain⟨o,e,_⟩:=T.obj 0 _ T5 b hb;exact⟨o,e⟩
 have I4:=qS (tk:=s3.toks+([]:List (Str×Value)).length) S I3 f3 hof keep ⟨_,hns₁⟩;have stat:∀ {H':Hp},(∀b∈fp,H' b=none)->∀b∈fp,nR (jl X (x::ys) scope cl s3.heap.objs.size fp s3 H3) [] H' b:=λhn b hb=>by
  obtain⟨_,g1,g2,g3,g4,g5⟩:=f3 b hb;obtain⟨o,e⟩:=hof b hb;refine⟨hn b hb,ne_of_lt (Heap.lt_size e),λhx=>?_,.inl hb,λx c e=>g4 x c (S.ux x c e),λp hp=>absurd (show p∈([]:c7) from hp) (by simp)⟩;rcases List.mem_cons.mp (I3.xX b hx) with z|z
  ·exact g1 z
  ·exact g2 z
 have fin:∀ {σ7:St} {H7:Hp} {s7:Shared},Inv (jl X (x::ys) scope cl s3.heap.objs.size fp s3 H3) [] σ7 H7 s7->Q (.ref D) H7->compPost (model X.prog X.w) X.A X.xe use QQ (.ref D) s3.heap.objs.size (.ok .next) s7:=λ{σ7 H7 s7} I7 q=>by
  obtain⟨m,hn,_⟩:=I7.loc;refine rc D s3.heap.objs.size s7 H7 (λh' hs'=>?_) ⟨m,hn⟩ (I3.qT (le_refl _) I7.free) I3.sz q;have ne:∀b o,s3.heap.get? b=some o->b≠s3.heap.objs.size:=λb o e=>ne_of_lt (Heap.lt_size e)
  have u:Un (frs X.stack) fp H3 H7 s3.heap s7.heap:=I7.base;have hC:H7 s3.heap.objs.size=none:=I7.free;refine I3.call' (ch:=fp) (s':={ s7 with heap:=h' }) I7.os ⟨λb o e n hb hx=>(hs'.2 b (ne b o e)).trans (u.keep b o e n hb hx),λb o e n hb hx=>?_,u.free,λb o e hx=>?_,u.tups,u.lH,u.mQ⟩ ?_ I7.bare ?_
  ·obtain⟨sl,q⟩:=u.slot b o e n hb hx
   exact⟨sl,(hs'.2 b (ne b o e)).trans q⟩
  ·obtain⟨o',q⟩:=u.there b o e hx
   exact⟨o',(hs'.2 b (ne b o e)).trans q⟩
  ·intro b ob eb
   refine(I7.hok b ob eb).stay (λc v hc q=>(hs'.2 c ?_).trans q) (λ_ q=>q) λ_ _ q=>q
   rcases hc with z|z
   ·intro y;rw[z] at y;rw[y] at eb;rw[hC] at eb;cases eb
   ·intro y;rw[y] at z;rw[hC] at z;cases z
  ·intro b hb
   obtain⟨_,g1,g2,g3,g4,g5⟩:=f3 b hb;exact⟨g3,g1,g4,g5⟩
 have loop:∀(s5:Shared) (n i:Nat) (σ5:St) (H5:Hp) (zs:List V),Inv (jl X (x::ys) scope cl s3.heap.objs.size fp s3 H3) [] (none::oN js σ) H5 s5->tn i s5.heap->(∀b∈fp,H5 b=none)->W i n H5 zs->
   codeAny (model X.prog X.w) X.A (.compLoop (.ListComp elt [⟨.Name x px,iter,ifs,0⟩] scope pos) 0 (.ref it) (.ref D) (compEnvC scope cl s3.heap.objs.size X.env)) (compPost (model X.prog X.w) X.A X.xe use QQ (.ref D) s3.heap.objs.size) s5:=by
  intro s5 n i σ5 H5 zs I5 yc Ej w5;refine qB (λn s=>∃i H' zs,Inv (jl X (x::ys) scope cl s3.heap.objs.size fp s3 H3) [] (none::oN js σ) H' s/\tn i s.heap/\(∀b∈fp,H' b=none)/\W i n H' zs) ?_ n ⟨i,H5,zs,I5,yc,Ej,w5⟩
  rintro n s6 ⟨i,H6,zs,I6,T6,T7,w6⟩
  rcases turn i n H6 zs w6 with⟨stop,q⟩|⟨go,N,hN,step⟩
  ·refine aX (T.done (jl X (x::ys) scope cl s3.heap.objs.size fp s3 H3) rfl rfl rfl hcalm i [] s6 _ H6 (λ_ _=>False) I6 (stat T7) T6 stop) λr s7 ⟨hr,I7⟩=>?_
   subst hr;exact fin I7 q
  ·refine aX (T.item (jl X (x::ys) scope cl s3.heap.objs.size fp s3 H3) rfl rfl rfl hcalm i [] s6 _ H6 (λ_ _=>False) I6 (stat T7) T6 go) λr s7 ⟨u,hr,h7⟩=>?_
   subst hr;refine aX h7 λ_ s8 ⟨v8,H8,I8,r8,y8,Fd,rg⟩=>?_
   have rh:=I8.pinned (stat rg) (T.obj _ _ Fd);have pg:PG (jl X (x::ys) scope cl s3.heap.objs.size fp s3 H3) (.Name x px) (B2 0):=jX S.nd rfl (.inl (lookup_relabel_local S.own)) (.inr (lookup_relabel_local S.own));refine aX (pg _ s8 _ H8 v8 u (λσ9 H9=>σ9=some v8::oN js σ/\H9=H8) rh r8 ⟨rfl,rfl⟩) λ_ s9 ⟨σ9,H9,I9,e9,rn⟩=>?_
   subst e9 rn;have again:∀ {s':Shared} {H':Hp} {zs':List V},Inv (jl X (x::ys) scope cl s3.heap.objs.size fp s3 H3) ([]++y9 fp s8.heap) (some v8::oN js σ) H' s'->N H' zs'->
     ∃m,m<n/\∃i H' zs,Inv (jl X (x::ys) scope cl s3.heap.objs.size fp s3 H3) [] (none::oN js σ) H' s'/\tn i s'.heap/\(∀b∈fp,H' b=none)/\W i m H' zs:=λ{s' H' zs'} I' n'=>by
    obtain⟨m',hm,w'⟩:=hN H' zs' n';refine⟨m',hm,i+1,H',zs',I'.B4.weak rfl ?_,T.keep _ _ _ Fd λb hb o e=>(I'.pin (b,o) (mem_append_right _ (mem_append_right _ (B3 hb e)))).1,λb hb=>?_,w'⟩
    ·intro k v e
     cases k with
     |zero=>exact absurd (show(some none:Option (Option V))=some (some v) from e) (by simp)
     |succ k=>exact e
    ·obtain⟨o,e,d⟩:=T.obj _ _ Fd b hb
     exact(I'.pin (b,o) (mem_append_right _ (mem_append_right _ (B3 hb e)))).2.1
   refine aX (ht _ _ _ _ _ s9 _ _ _ I9 (step v8 _ y8)) λb ro ⟨rL,T8,rC⟩=>?_
   cases b with
   |false=>
    rw[if_neg Bool.false_ne_true] at rC ⊢
    exact again T8 rC
   |true=>
    rw[if_pos rfl] at rC ⊢
    refine aX (he _ _ _ _ _ ro _ rL _ T8 rC) λxv yw ⟨y,T9,rS,r11,rV,hz,rX⟩=>?_
    refine aX (ju _ yw _ T9 (.ref D) [y] (.ref D) [xv] (λ_ H'=>H'=upd T9 D (.lst (zs++[y]))) rS rfl (.cons r11 .nil) ⟨D,zs,y,rfl,rfl,rV,hz,rfl⟩) λ_ s12 ⟨_,H12,se,_,si⟩=>?_
    subst si;exact again se rX
 have Fe:tn 0 h₁:=T.keep _ _ _ T5 λb _ o e=>keep b o e
 have Tc:∀b∈fp,H3 b=none:=λb hb=>(f3 b hb).1
 exact codeAny_compStart_list (loop _ m0 0 [] H3 [] I4 Fe Tc w0) (T.self X.A 0 _ _ _ Fe (loop _ m0 0 [] H3 [] I4 Fe Tc w0))
theorem sk{wi:TI}(hcalm:X.calm=true)(S:vK X scope cl x ys js)(hi:PI X (.Name x px) iter wi)
  (ht:∀C fp s H,yu (jl X (x::ys) scope cl C fp s H) ifs ti) (he:∀C fp s H,PE (jl X (x::ys) scope cl C fp s H) elt te)
  (hs:∀x,foldedSetIterable iter X.env x=pure x:=by intro _;rfl):
  PE X (.ListComp elt [⟨.Name x px,iter,ifs,0⟩] scope pos) (F8 js wi ti te):=by
 intro pins s σ H Q I h;rw[eval_ListComp];exact SX (use:=none) hcalm S hi ht he hs I h λD C s7 H7 inv ⟨m,hn⟩ _ _ q=>⟨m,hn,λh' hs'=>⟨.ref D,H7,inv h' hs',rfl,q⟩⟩
theorem Inv.junk{pins:c7}{σ:St}{H:Hp}{s:Shared}{C:Addr}{h':Heap}(I:Inv X pins σ H s)(hf:nR X pins H C)(hsz:X.s₀.heap.objs.size<=C)(hs:Heap.SameBut C s.heap h'):Inv X pins σ H { s with heap:=h' }:=by
 obtain⟨f0,f1,f2,f3,f4,f5⟩:=hf;have ne:∀b o,X.s₀.heap.get? b=some o->b≠C:=λb o e=>ne_of_lt (lt_of_lt_of_le (Heap.lt_size e) hsz)
 obtain⟨m,hn,hl⟩:=id I.loc;refine⟨I.ok,I.os,I.bare,⟨λb o e n hb hx=>(hs.2 b (ne b o e)).trans (I.base.keep b o e n hb hx),λb o e n hb hx=>?_,I.base.free,λb o e hx=>?_,I.base.tups,I.base.lH,I.base.mQ⟩,⟨m,hn.sameBut hs f1.symm,λj y v e1 e2 e3=>?_⟩,λy c e=>?_,I.free,I.mX,λp hp=>?_,λb ob e=>?_,I.len⟩
 ·obtain⟨sl,e1⟩:=I.base.slot b o e n hb hx
  exact⟨sl,(hs.2 b (ne b o e)).trans e1⟩
 ·obtain⟨o',e1⟩:=I.base.there b o e hx
  exact⟨o',(hs.2 b (ne b o e)).trans e1⟩
 ·obtain⟨u',r',q⟩:=hl j y v e1 e2 e3
  refine⟨u',r',?_⟩;rcases q with⟨k,e⟩|⟨k,c,e,z⟩
  ·exact .inl ⟨k,e⟩
  ·exact .inr ⟨k,c,e,z.sameBut hs (f4 y c e)⟩
 ·obtain⟨w',z⟩:=I.cell y c e
  exact⟨w',z.sameBut hs (f4 y c e)⟩
 ·obtain⟨e,nn,sv,nf,d⟩:=I.pin p hp
  exact⟨(hs.2 p.1 (f5 p hp)).trans e,nn,sv,nf,d⟩
 ·refine(I.hok b ob e).stay (λc u hc q=>(hs.2 c ?_).trans q) (λ_ q=>q) λ_ _ q=>q
  rintro rfl
  rcases hc with z|z
  ·rw[<-z,f0] at e;cases e
  ·rw[f0] at z;cases z
theorem sw{wi:TI}{i:Nat}{y:Str}{py spos:Pos}(hN:X.N.Nodup)(hix:X.N[i]? = some y)(sx:Loc X.env.scope y)(hcalm:X.calm=true)(S:vK X scope cl x ys js)(hi:PI X (.Name x px) iter wi)
  (ht:∀C fp s H,yu (jl X (x::ys) scope cl C fp s H) ifs ti) (he:∀C fp s H,PE (jl X (x::ys) scope cl C fp s H) elt te)
  (hsw:swapsWith (.ListComp elt [⟨.Name x px,iter,ifs,0⟩] scope pos) (some (.Name y py)) spos.line X.env=pure true:=by rfl) (hs:∀x,foldedSetIterable iter X.env x=pure x:=by intro _;rfl)
  (hf:X.fn y=true\/X.env.scope.names.lookup y=some .local:=by first|exact .inl rfl|exact .inr rfl|assumption):
  PS X (.Assign [.Name y py] (.ListComp elt [⟨.Name x px,iter,ifs,0⟩] scope pos) spos) (QV (F8 js wi ti te) (B2 i)):=by
 intro pins s σ H D I h;rw[exec_Assign_Name_used _ _ _ _ hsw];refine wpAny_bind (wpAny_standAt (wpAny_bind ?_));show wpAny _ _ (do let _ <-comprehension (.ListComp elt [⟨.Name x px,iter,ifs,0⟩] scope pos) scope X.env _ (newList []) false (eval iter X.env) (some (assign (.Name y py) X.env))) _ _ s;refine wpAny_bind (wpAny_mono (SX (use:=some (assign (.Name y py) X.env)) (QQ:=λ_ s'=>SP X pins D .next s') hcalm S hi ht he hs I h λDD C s7 H7 inv ⟨m,hn⟩ hfp hsz q=>?_) (λ_ s' hq=>wpAny_pure (wpAny_pure hq)) λ_ _ e=>e);have J:Inv X pins σ H7 s7:=inv s7.heap (Heap.SameBut.refl _ _);show wpAny _ _ (assign (.Name y py) X.env (.ref DD)) _ _ _;refine wpAny_assign_Name (QH J hN hix sx (show RelV (.ref DD) (.ref DD) from rfl) (λs8 I8 ⟨a,sb,ha⟩=>?_) hf);have nC:C≠a:=by
  rcases ha with rfl|hc
  ·exact hfp.2.1
  ·exact(hfp.2.2.2.2.1 _ _ hc).symm
 exact⟨m,hn.sameBut sb nC,λh' hs'=>⟨_,H7,I8.junk hfp hsz hs',q⟩⟩
theorem Fg {K : Frag} {a D : Addr} {xs : List V} {τ : St} {te : TE} {H : Hp} {Q : Hp -> Prop} (Pv : Nat -> Hp -> List V -> Prop) (h0 : Pv 0 (upd H D (.lst [])) [])
    (hl : ∀ i H ys, i <= xs.length -> Pv i H ys -> aG K H a xs)
    (hs : ∀ i x H ys, xs[i]? = some x -> Pv i H ys -> te (some x :: τ) H λy H5 => H5 D = some (.lst ys) /\ ys.length < sizeLine /\ Pv (i + 1) (upd H5 D (.lst (ys ++ [y]))) (ys ++ [y]))
    (hd : ∀ H ys, Pv xs.length H ys -> Q H) :
    ∃ W : Nat -> Nat -> Hp -> List V -> Prop, (∃ m, W 0 m (upd H D (.lst [])) []) /\ ∀ i m H' ys, W i m H' ys ->
      ((j3 K a).stop i H' /\ Q H') \/ ((j3 K a).go i H' /\ ∃ N : Hp -> List V -> Prop, (∀ H' ys', N H' ys' -> ∃ m', m' < m /\ W (i + 1) m' H' ys') /\ ∀ x H2, (j3 K a).jC i H' x H2 -> ur (some x :: τ) H2 λb H4 =>
        if b = true then te (some x :: τ) H4 λy H5 => H5 D = some (.lst ys) /\ ys.length < sizeLine /\ N (upd H5 D (.lst (ys ++ [y]))) (ys ++ [y])
        else N H4 ys) := by
  refine ⟨λi m H ys => m = xs.length - i /\ i <= xs.length /\ Pv i H ys, ⟨xs.length, by simp, zero_le _, h0⟩, ?_⟩
  rintro i m H ys ⟨rfl, hi, p⟩
  have q := hl i H ys hi p
  by_cases hlt : i < xs.length
  · refine .inr ⟨⟨xs, xs[i], q, by simp [hlt]⟩, Pv (i + 1), λH' ys' p' => ⟨xs.length - (i + 1), by omega, rfl, hlt, p'⟩, λx H' y => ?_⟩
    obtain ⟨e, y⟩ := y;subst e;exact hs i x _ ys (y xs q) p
  · have e : i = xs.length := by omega
    subst e;exact .inl ⟨⟨xs, q, le_refl _⟩, hd H ys p⟩
end
mutual
inductive DV(H:Hp):V->PyData->Prop
 |non:DV H .non .none
 |bl (b:Bool):DV H (.bl b) (.bool b)
 |int (i:Int):DV H (.int i) (.int i)
 |str (x:Str):DV H (.str x) (.str x)
 |lst {a:Addr} {xs:List V} {ds:List PyData}:H a=some (.lst xs)->mZ H xs ds->DV H (.ref a) (.list ds)
 |tup {a:Addr} {xs:List V} {ds:List PyData}:H a=some (.tup xs)->mZ H xs ds->DV H (.ref a) (.tuple ds)
inductive mZ(H:Hp):List V->List PyData->Prop
 |nil:mZ H [] []
 |cons {x:V} {xs:List V} {d:PyData} {ds:List PyData}:DV H x d->mZ H xs ds->mZ H (x::xs) (d::ds)
end
section
variable {P:Program}{w:World}{H:Hp}{h:Heap}
mutual
theorem DV.reads(hok:eX P w H h):∀(d:PyData) (x:V) (u:Value),DV H x d->RelV x u->∃as,Reads h u d as
 |.none,x,u,r,q=>by cases r;cases(show u=Value.none from q);exact⟨[],.none⟩
 |.bool b,x,u,r,q=>by cases r;cases(show u=Value.bool b from q);exact⟨[],.bool b⟩
 |.int i,x,u,r,q=>by cases r;obtain⟨t,rfl⟩:=(show ∃t,u=Value.int i t from q);exact⟨[],.int i t⟩
 |.str y,x,u,r,q=>by cases r;obtain⟨t,rfl⟩:=(show ∃t,u=Value.str y t from q);exact⟨[],.str y t⟩
 |.list ds,x,u,r,q=>by
  cases r with
  |@lst a xs _ e rs=>
   cases(show u=Value.ref a from q);obtain⟨z,its,n,rv,eo⟩:=(show gB P w H h a (.lst xs) from hok a _ e);obtain⟨as,ra⟩:=mZ.reads hok ds xs its rs rv;exact⟨a::as,.list eo rfl rfl (by simpa using ra)⟩
 |.tuple ds,x,u,r,q=>by
  cases r with
  |@tup a xs _ e rs=>
   cases(show u=Value.ref a from q);obtain⟨z,its,rv,o,eo,hc,n,hd⟩:=(show gB P w H h a (.tup xs) from hok a _ e);obtain⟨as,ra⟩:=mZ.reads hok ds xs its rs rv;exact⟨as,.tuple eo hc hd (by simpa using ra)⟩
 |.dict _,x,u,r,q=>by cases r
theorem mZ.reads(hok:eX P w H h):∀(ds:List PyData) (xs:List V) (us:List Value),mZ H xs ds->Vals xs us->∃as,ReadsAll h us ds as
 |[],_,_,r,q=>by cases r;cases q;exact⟨[],.nil⟩
 |d::ds,_,_,r,q=>by
  cases r with
  |cons r1 r2=>
   cases q with
   |cons q1 q2=>
    obtain⟨as,ra⟩:=DV.reads hok d _ _ r1 q1;obtain⟨bs,rb⟩:=mZ.reads hok ds _ _ r2 q2;exact⟨as++bs,.cons ra rb⟩
end
end
section
variable {X:Cx}
theorem Td(hu:X.A.units+64<cLine):gC X (compareOp .Eq) (λx y H Q=>∃dx dy,DV H x dx/\DV H y dy/\dx.canLay0=true/\dy.canLay0=true/\dx.depth<=64/\Q (.bl (PyData.eqv dx dy)) H):=by
 intro pins s σ H x y v u Q I rx ry h;obtain⟨dx,dy,hx,hy,cx,cy,hd,q⟩:=h;obtain⟨as,ra⟩:=hx.reads I.hok dx x v rx;obtain⟨bs,rb⟩:=hy.reads I.hok dy y u ry;exact SeqAt.compareEq_reads ra rb cx cy (Nat.lt_of_le_of_lt (add_le_add_left (le_trans (Nat.min_le_left _ _) hd) _) hu) ⟨.bl _,H,I,rfl,q⟩
theorem Te:∀(xs ys:List Int),PyData.eqvAll (xs.map .int) (ys.map .int)=decide (xs=ys)
 |[],[]=>rfl
 |[],y::ys=>by simp[PyData.eqvAll]
 |x::xs,[]=>by simp[PyData.eqvAll]
 |x::xs,y::ys=>by
  show(PyData.eqv (.int x) (.int y)&&PyData.eqvAll (xs.map .int) (ys.map .int))=_;rw[Te xs ys];show((x==y)&&decide (xs=ys))=decide (x::xs=y::ys)
  by_cases h1:x=y<;>by_cases h2:xs=ys<;>simp[h1,h2]
theorem sA(xs ys:List Int):PyData.eqv (.list (xs.map .int)) (.list (ys.map .int))=decide (xs=ys):=Te xs ys
theorem Fi:∀xs:List Int,PyData.canLay0 (.list (xs.map .int))=true
 |[]=>rfl
 |x::xs=>Fi xs
theorem Tf:∀xs:List Int,PyData.depth (.list (xs.map .int))<=1
 |[]=>le_refl _
 |x::xs=>by
  have:=Tf xs;show max 0 (PyData.depthAll (xs.map .int))+1<=1;have h2:PyData.depthAll (xs.map .int)+1<=1:=this
  omega
theorem Fj{H:Hp}:∀xs:List Int,mZ H (xs.map V.int) (xs.map PyData.int)
 |[]=>.nil
 |x::xs=>.cons (.int x) (Fj xs)
theorem Tn:gC X (binaryOp .Mult) (λx y H Q=>∃z n,x=.str z/\y=.int n/\0<=n/\n<=16777216/\z.length*n.toNat<=16777216/\Q (.str (Txt.mul z n)) H):=by
 intro pins s σ H x y v u Q I rx ry h;obtain⟨z,n,rfl,rfl,h0,h1,h2,q⟩:=h;obtain⟨t,rfl⟩:=rx;obtain⟨t',rfl⟩:=ry;exact SB.mul (mulOk_of z.length n.toNat (le_refl _) (by omega) (by omega) (by omega) h2) λt2 k=>⟨.str (Txt.mul z n),H,I.tok k,⟨_,rfl⟩,q⟩
theorem sC:vI X "str.rfind" (λx xs H Q=>∃z y,x=.str z/\xs=[.str y]/\Q (.int (Txt.rfind z y)) H):=by
 intro pins s σ H x xs v us Q I rx rs h;obtain⟨z,y,rfl,rfl,q⟩:=h;obtain⟨t,rfl⟩:=rx;obtain⟨u,rfl,ru⟩:=zl2 rs;obtain⟨t',rfl⟩:=ru;exact call_gives F.slot_str_rfind (typeIs_str _ _ _) F.entry_str_rfind (F.args_str_rfind_2 _ _) (gives_str_rfind z y t t') ⟨.int _,H,I.tok _,⟨_,rfl⟩,q⟩
theorem sF{zs:List Str}:∀ {us:List Value},Vals (zs.map V.str) us->StrsAre us zs:=by
 induction zs with
 |nil=>intro us r;cases r;exact .nil
 |cons z zs ih=>
  intro us r;cases r with
  |cons r1 r2=>
   obtain⟨t,rfl⟩:=r1;exact .cons z t (ih r2)
theorem sK:vI X "str.join" (λx xs H Q=>∃z p zs,x=.str z/\xs=[.ref p]/\aG X.K H p (zs.map V.str)/\(zs.map (·.length)).sum+zs.length*z.length<=16777216/\Q (.str (Txt.join z zs)) H):=by
 intro pins s σ H x xs v us Q I rx rs h;obtain⟨z,p,zs,rfl,rfl,hq,hz,q⟩:=h;obtain⟨t,rfl⟩:=rx;obtain⟨u,rfl,ru⟩:=zl2 rs;cases ru;obtain⟨its,r,pl,_⟩:=I.list hq;exact join_list pl.isList (by simpa using sF r) hz λt' k=>⟨.str _,H,I.tok k,⟨_,rfl⟩,q⟩
end
theorem gB.there{P:Program}{w:World}{H:Hp}{h:Heap}{a:Addr}{o:HO}(x:gB P w H h a o):∃ob,h.get? a=some ob:=by
 cases o with
 |lst xs=>obtain⟨_,_,_,_,e⟩:=x;exact⟨_,e⟩
 |tup xs=>obtain⟨_,_,_,o,e,_⟩:=x;exact⟨_,e⟩
 |dK kvs=>obtain⟨_,_,_,_,o,_,_,e,_⟩:=x;exact⟨_,e⟩
 |dT kvs=>obtain⟨_,_,_,_,o,_,_,e,_⟩:=x;exact⟨_,e⟩
 |set S n=>obtain⟨o,_,_,_,e,_⟩:=x;exact⟨_,e⟩
 |ins C dx fs=>obtain⟨_,_,_,e,_⟩:=x;exact⟨_,e⟩
 |own y=>exact x
 |xd fs=>obtain⟨_,⟨_,_,_,e,_⟩,_⟩:=x;exact⟨_,e⟩
 |rng lo hi=>obtain⟨_,_,_,e⟩:=x;exact⟨_,e⟩
 |d6 ob u=>obtain⟨e,_⟩:=x;exact⟨_,e⟩
 |qQ ps=>exact⟨_,show h.get? a=some _ from x⟩
 |met f y=>exact⟨_,show h.get? a=some _ from x⟩
 |ext φ=>obtain⟨_,e,_⟩:=x;exact e
def jJ(P:Program)(w:World):jt:=λouter H s E e s'=>
 ∃(a t:Addr) (cls:Value) (H':Hp) (B:Heap),e=.ref a/\s'.os=s.os/\AllBare s'.gens/\Un (frs outer) [] H H' s.heap s'.heap/\eX P w H' B/\
  (∀b o,s.heap.get? b=some o->H b=none->b∉frs outer->B.get? b=some o)/\(∀b o,s.heap.get? b=some o->b∉frs outer->∃o',B.get? b=some o')/\
  Heap.FlyingW B outer a cls (.ref t) s'.heap/\E cls none H'
theorem Tp{X:Cx}{pins:c7}{σ:St}{H H':Hp}{s s':Shared}{B h'':Heap}{outer:List Env}(hX:X.ex=[])(ho:X.outer=outer)(hst:X.stack=X.env::X.outer)
  (I:Inv X pins σ H s) (un:Un (frs X.stack) [] H H' s.heap s'.heap)
  (old:∀b o,s.heap.get? b=some o->H b=none->b∉frs X.stack->B.get? b=some o) (the:∀b o,s.heap.get? b=some o->b∉frs X.stack->∃o',B.get? b=some o')
  (fr:s'.heap.FunFrames B X.stack) (st:B.StaysIn h'') (up:s'.heap.UpToSlots h''):
  Un (frs outer) [] X.H₀ H' X.s₀.heap h''/\(∀b o,X.s₀.heap.get? b=some o->X.H₀ b=none->b∉frs outer->B.get? b=some o)/\(∀b o,X.s₀.heap.get? b=some o->b∉frs outer->∃o',B.get? b=some o'):=by
 subst ho;have nx:∀b:Addr,b∉X.ex:=λb=>by rw[hX];simp
 have Az:∀b o,X.s₀.heap.get? b=some o->b≠X.env.locals:=λb o e=>ne_of_lt (lt_of_lt_of_le (Heap.lt_size e) I.ok.above)
 have Tq:∀b o,X.s₀.heap.get? b=some o->b∉frs X.outer->b∉frs X.stack:=λb o e hb hz=>by
  rcases List.mem_cons.mp (I.xX b hz) with z|z
  ·exact Az b o e z
  ·exact hb z
 have Tt:∀b,b∈frs X.outer->b∈frs X.stack:=λb hb=>by
  rw[hst];obtain⟨e,he,hf⟩:=List.mem_filterMap.mp hb;exact List.mem_filterMap.mpr ⟨e,mem_cons_of_mem _ he,hf⟩
 have k1:∀b o,X.s₀.heap.get? b=some o->X.H₀ b=none->b∉frs X.outer->B.get? b=some o:=λb o e n hb=>
  old b o (I.base.keep b o e n hb (nx b)) (I.base.free b o e n (nx b)) (Tq b o e hb)
 have k2:∀b o,X.s₀.heap.get? b=some o->b∉frs X.outer->∃o',B.get? b=some o':=λb o e hb=>by
  obtain⟨o',e'⟩:=I.base.there b o e (nx b);exact the b o' e' (Tq b o e hb)
 have k3:∀b o,X.s₀.heap.get? b=some o->X.H₀ b=none->b∈frs X.outer->∃sl,h''.get? b=some { o with slots:=sl }:=λb o e n hb=>by
  obtain⟨sl,e1⟩:=I.base.slot b o e n hb (nx b);obtain⟨sl',e2⟩:=un.any e1 (I.base.free b o e n (nx b)) (by simp);obtain⟨_,o',ho',hnf⟩:=fr.mem (Tt b hb);rw[e2] at ho'
  cases ho';obtain⟨sl2,e3⟩:=up b _ e2 hnf;exact⟨sl2,e3⟩
 refine⟨⟨λb o e n hb _=>st b o (k1 b o e n hb),λb o e n hb _=>k3 b o e n hb,λb o e n _=>?_,λb o e _=>?_,λb xs e=>un.tups b xs (I.base.tups b xs e),λb o u e=>un.lH b o u (I.base.lH b o u e),λb ps e=>?_⟩,k1,k2⟩
 ·obtain⟨o',e1⟩:=I.base.there b o e (nx b)
  exact un.free b o' e1 (I.base.free b o e n (nx b)) (by simp)
 ·by_cases hb:b∈frs X.outer
  ·obtain⟨_,o',ho',hnf⟩:=fr.mem (Tt b hb)
   obtain⟨sl2,e3⟩:=up b _ ho' hnf;exact⟨_,e3⟩
  ·obtain⟨o',e1⟩:=k2 b o e hb
   exact⟨o',st b o' e1⟩
 ·obtain⟨m1,e1⟩:=I.base.mQ b ps e
  obtain⟨m2,e2⟩:=un.mQ b _ e1;exact⟨m1++m2,by rw[e2,Array.append_assoc]⟩
def Raises(X:Cx)(E:XK):Prop:=∀(pins:c7) (σ:St) (H:Hp) (s:Shared) (h':Heap) (e C:Addr) (args:List Value),Inv X pins σ H s->Heap.MadeExcOf s.heap h' e (.ref C) args->E (.ref C) none H->
 X.xe (.ref e) { s with heap:=h' }
section
variable {P:Program}{w:World}{K:Frag}{mg:eV}{base:Heap}{N:List Str}{qual:Str}{scope:Scope}{f:Addr}{cd:Value}{A:Around}{outer:List Env}{s0:Shared}{H0:Hp}{E E':XK}
theorem Fl:Raises (lJ (jJ P w) P w K mg base N qual scope f cd A outer s0 H0 E) E:=by
 intro pins σ H s h' e C args I hx hE;have sL:=I.stack;have hin:∀env∈(lJ (jJ P w) P w K mg base N qual scope f cd A outer s0 H0 E).stack,∀b,env.frame=some b->b∈frs (lJ (jJ P w) P w K mg base N qual scope f cd A outer s0 H0 E).stack:=λenv he b hb=>List.mem_filterMap.mpr ⟨env,he,hb⟩
 have FB:=PySem.W.funFrames_hide sL hin;refine wpAny_leaves_madeW I.ok.frames rfl (λb o q=>of_hideAll _ q) FB hx λh'' t x1 x2 x3 x4=>?_
 have inB:∀b o,s.heap.get? b=some o->b∉frs (lJ (jJ P w) P w K mg base N qual scope f cd A outer s0 H0 E).stack->(hideAll s.heap (frs (lJ (jJ P w) P w K mg base N qual scope f cd A outer s0 H0 E).stack)).get? b=some o:=
  λb o q n=>hideAll_get _ q n
 have up:s.heap.UpToSlots h'':=(Heap.UpToSlots.of_keeps hx.keeps).trans x4;obtain⟨u1,u2,u3⟩:=Tp (H':=H) (s':=s) rfl rfl rfl I Un.refl (λb o q _ hb=>inB b o q hb) (λb o q hb=>⟨o,inB b o q hb⟩) FB x1.1 up;refine⟨e,t,.ref C,H,_,rfl,I.os,I.bare,u1,?_,u2,u3,x1,hE⟩;intro a o ea;refine(I.hok a o ea).stay (λb u hb q=>inB b u q λhm=>?_) (λ_ q=>q) λ_ _ q=>q
 have z:=I.E9 b hm;rcases hb with y|y
 ·subst y;rw[z] at ea;cases ea
 ·rw[z] at y;cases y
theorem sM(hE:∀c o H',E' c o H'->E c o H'):Passes (jJ P w) (lJ (jJ P w) P w K mg base N qual scope f cd A outer s0 H0 E) E':=by
 intro pins σ H s e s' I h;obtain⟨a,t,cls,H',B,rfl,os,bare,un,hok,old,the,fl,he⟩:=h;refine wpAny_leaves_onW I.ok.frames rfl fl λh'' Tv up=>?_
 obtain⟨u1,u2,u3⟩:=Tp rfl rfl rfl I un old the fl.2.2.1 Tv.1 up;exact⟨a,t,cls,H',B,rfl,os.trans I.os,bare,u1,hok,u2,u3,Tv,hE _ _ _ he⟩
theorem sN{X:Cx}:Passes (jJ P w) X λ_ _ _=>False:=λ_ _ _ _ _ _ _ h=>by
 obtain⟨_,_,_,_,_,_,_,_,_,_,_,_,_,z⟩:=h;exact z.elim
end
abbrev Fo:List Value:=[.type "ValueError",.type "Exception",.type "BaseException",.type "object"]
def vL(K:Frag)(C:Addr):Prop:=excIn K C Fo "ValueError.__new__"=true
theorem vL.obj{K:Frag}{C:Addr}{h:Heap}(q:vL K C)(X:K.In h):∃bm N nm qn bs hd sn sub ab col dd k0 k1 k2 k3 k5 mN,
  h.get? C=some (excClassObj nm qn C N bs bm hd sn sub ab col dd k0 k1 k2 k3 k5 "ValueError.__new__")/\h.Ns N mN/\mN "__init__"=none/\OwnTail h Fo bm:=by
 unfold vL excIn at q
 split at q
 ·rename_i dd cd sl ho
  split at q
  ·rename_i C' bm k0 k1 k2 k3 n k5 hm hs
   rw[and_eq_true,and_eq_true,and_eq_true,and_eq_true,and_eq_true] at q
   obtain⟨⟨⟨⟨⟨z1,z2⟩,z3⟩,z4⟩,z5⟩,z6⟩:=q;obtain rfl:=beq_iff_eq.mp z1;obtain rfl:=beq_iff_eq.mp z2;have sP:=(Bool.not_eq_true' _).mp z3;have sQ:=beq_iff_eq.mp z6;obtain⟨nm,bs,mro,ns,qn,hd,sn,sub,ab,col,del⟩:=cd;obtain⟨sl⟩:=sl;obtain rfl:sl=_:=hs;obtain rfl:mro=_:=hm;obtain rfl:del=false:=sP;exact⟨bm,ns,nm,qn,bs,hd,sn,sub,ab,col,dd,k0,k1,k2,k3,k5,_,X _ _ ho,.of_isNs (PySem.W.isNs_of_in X z5),PySem.W.nsMap_none_of_in X z5 sQ,PySem.W.tail_of_in X z4⟩
  ·cases q
 ·cases q
section
variable {X:Cx}{E:XK}{C:Addr}{x:Str}{np cpos pos:Pos}{e0:Expr}{rest:List Expr}{ta:TA}
def sR(E:XK)(C:Addr)(ta:TA):TS:=λ_ σ H=>ta σ H λvs H1=>vs.length<=sizeLine/\E (.ref C) none H1
theorem tf(R:Raises X E)(hC:vL X.K C)(hc:X.calm=true)(hg:Gl X x)(hm:X.mg x=some (.ref C))(ha:PA X (e0::rest) ta)(hd:(x==("__debug__":Str))=false:=by decide)
  (he:starEach (e0::rest) X.env=(false,eval e0 X.env)::starEach rest X.env:=by rfl) (hpl:(backTo cpos (starEach rest X.env)).any (·.1)=false:=by rfl):
  PS X (.Raise (some (.Call (.Name x np) (e0::rest) [] cpos)) none pos) (sR E C ta):=by
 intro pins s σ H D I h;obtain⟨bm,N,nm,qn,bs,hdc,sn,sub,ab,col,dd,k0,k1,k2,k3,k5,mN,hobj,hN,hni,T⟩:=hC.obj I.ok.mod.vB;have F:=PySem.F.excBase_ValueError;refine wpAny_Raise_call_subU (bm:=bm) (mN:=mN) (N:=N) (nm:=nm) (q:=qn) (bs:=bs) (hdct:=hdc) (sn:=sn) (sub:=sub) (ab:=ab) (col:=col) (dd:=dd) (k0:=k0) (k1:=k1) (k2:=k2) (k3:=k3) (k5:=k5) F F.hasB F (T.hasType F.hasBase) (I.ok.hd hc) ?_ hni (xZ I hg hm ⟨rfl,?_⟩ hd)
 ·rw[he]
  show(false||(backTo cpos (starEach rest X.env)).any (·.1))=false;rw[hpl]<;>rfl
 ·have hA:=ha cpos pins s σ H _ I h
  rw[he] at hA ⊢
  refine Calls.evalArgs_plain (aX hA λus s2 ⟨vs,H2,I2,r2,hz,q2⟩=>?_);exact⟨rfl,by rw[<-r2.length];exact hz,I2.bk _ _ hobj,hN.keeps I2.bk,T.keeps I2.bk,λh' e hx=>R pins σ H2 s2 h' e C us I2 hx q2⟩
end
abbrev Cx.suite(X:Cx)(A:Around)(pn:c7):Cx:={ X with A:=A,calm:=false,xe:=λ_ _=>False,pn:=pn }
theorem vM{P:Program}{w:World}{h h':Heap}{a:Addr}{kvs:List (Key×Value)}(d:h.DictOf (eG P w) a kvs)(k:∀b o,h.get? b=some o->h'.get? b=some o):h'.DictOf (eG P w) a kvs:=
 let ⟨o,es,ep,e,r⟩:=d;⟨o,es,ep,k _ _ e,r⟩
section
variable {X:Cx}{d:Addr}{vs:List (Key×Value)}
theorem tm(hs:(d==sysModules)=false)(dd:X.base.DictOf (eG X.prog X.w) d vs):gC X (compareOp .In) (λx y H Q=>∃z:Str,x=.str z/\y=.ref d/\Q (.bl (valueAt vs (Sum.inr z:Key)).isSome) H):=by
 intro pins s σ H x y v u Q I rx ry h;obtain⟨z,rfl,rfl,q⟩:=h;obtain⟨t,rfl⟩:=rx;cases ry;exact wpAny_in_of (xT _ _ z t) hs (vM dd I.bk).mapOf ⟨.bl _,H,I.tok _,rfl,q⟩
def Fp(i:Expr):Prop:=∀ov iv,subscripted i false ov iv=operate [ov,iv] (getItem ov iv)
theorem Tz{prog:Program}{w:World}{A:Around}{E:cJ}{s:Shared}{env:Env}{value slice:Expr}{pos:Pos}{T id:String}{Q:cJ}
  (hl:typeLookup (.type T) "__getitem__"=pure (some (.builtin id))) (hs:Fp slice)
  (h:wpAny (model prog w) A (eval value env) (λo s₁=>wpAny (model prog w) A (eval slice env) (λi s₂=>s₂.TypeIs o T/\wpAny (model prog w) A (getItem o i) Q E s₂) E s₁) E s):
  wpAny (model prog w) A (eval (.Subscript value slice pos) env) Q E s:=by
 refine Subscript_ (wpAny_mono h (λo s₁ h₁=>wpAny_mono h₁ (λi s₂ h₂=>?_) λ_ _ x=>x) λ_ _ x=>x);obtain⟨hT,h₂⟩:=h₂;unfold subscriptTail;refine wpAny_bind ?_;rw[getitemInPython_of_ne hT.not_modules];refine wpAny_bind (wpAny_specialOf hT hl ?_);have fin:wpAny (model prog w) A (subscripted slice false o i) (λr s₃=>wpAny (model prog w) A (letTemporaryGo value o r >>= λ_=>pure r) Q E s₃) E s₂:=by
  rw[hs o i];exact wpAny_operating (wpAny_mono h₂ (λr s₃ h₃=>wpAny_bind (wpAny_letTemporaryGo (wpAny_pure h₃))) λ_ _ x=>x)
 first
  |exact wpAny_pure (wpAny_bind fin)
  |exact wpAny_bind (wpAny_pure (wpAny_bind fin))
  |exact wpAny_bind fin
def tq(d:Addr)(vs:List (Key×Value))(td ty:TE):TE:=λσ H Q=>td σ H λx H1=>ty σ H1 λy H2=>∃z v u,x=.ref d/\y=.str z/\valueAt vs (Sum.inr z:Key)=some u/\RelV v u/\Q v H2
theorem tF{o i:Expr}{pos:Pos}{td ty:TE}(dd:X.base.DictOf (eG X.prog X.w) d vs)(ho:PE X o td)(hi:PE X i ty)(hs:Fp i):PE X (.Subscript o i pos) (tq d vs td ty):=by
 intro pins s σ H Q I h;refine Tz PySem.F.slot_dict_getitem.lookup hs (aX (ho pins s σ H _ I h) λu s1 ⟨x,H1,I1,rx,q1⟩=>aX (hi pins s1 σ H1 _ I1 q1) λiv s2 ⟨y,H2,I2,ry,z,v,uu,ex,ey,hv,rv,q2⟩=>?_);subst ex ey;obtain rfl:u=Value.ref d:=rx;obtain⟨t,rfl⟩:=ry;have dd2:=vM dd I2.bk;exact⟨dd2.typeIs,wpAny_getItem_of (xT _ _ z t) dd2.mapOf hv ⟨v,H2,I2.tok _,rv,q2⟩⟩
end
section
variable {P:Program}{w:World}{K:Frag}{mg:eV}{base:Heap}
theorem cA.tI{x qual:Str}{st:Stmt}{f:Addr}{fd:FuncData}{N ps:List Str}{k:Nat}{sp:Sp}(F:cA K x qual st f fd)(S:cQ N ps (cg st))(len:∀vs H Q E,sp vs H Q E->vs.length=ps.length)
  (hbody:∀(cdv:Value) (A:Around) (outer:List Env) (s:Shared) (H:Hp) (vs:List V) (Q:VK) (E:XK),cZ k (A.deeper (envOfC qual (cg st) s.heap.objs.size f cdv))->sp vs H Q E->
   ∃t,jk (lJ (jJ P w) P w K mg base N qual (cg st) f cdv A outer s H E) (rB st) t/\t { nx:=λ_ H'=>Q .non H',rt:=Q } (start N vs) H):aH P w K mg base (jJ P w) (k+1) f fd ps sp:=by
 obtain⟨oc,od,kV,doc,pm,an,cdv,ct,osl,rfl,lk,hcd⟩:=F.ex;exact RN lk hcd S len λA outer s H vs Q E hr hsp=>hbody cdv A outer s H vs Q E hr hsp
end
end L2
namespace PySem.W
open PySem PySem.Calls PyProof.Rows Builtin Builtin.ObjectAttr Builtin.Getset_descriptor
end PySem.W
namespace L2
open PySem PySem.Spec PyProof.Rows
open PySem PySem.Spec PyProof.Rows PySem.Builtin PySem.Builtin.Str
section
variable {X:Cx}
theorem TF:∀l:List (Str×Tok),Vals ((l.map (·.1)).map V.str) (strValues l)
 |[]=>.nil
 |p::r=>.cons ⟨p.2,rfl⟩ (TF r)
theorem tJ:vI X "str.split" (λx xs H Q=>∃z y,x=.str z/\xs=[.str y]/\(y.length==0)=false/\z.length+2<=sizeLine/\∀l,H l=none->Q (.ref l) (upd H l (.lst ((Txt.split z y).map V.str)))):=by
 intro pins s σ H x xs v us Q I rx rs h;obtain⟨z,y,rfl,rfl,hy,hsz,q⟩:=h;obtain⟨t,rfl⟩:=rx;obtain⟨u,rfl,ru⟩:=zl2 rs;obtain⟨t',rfl⟩:=ru;have hle:=split_le z y;have fin:∀(l:List (Str×Tok)) (k:Nat),l.map (·.1)=Txt.split z y->EP X pins σ Q (.ref s.heap.objs.size) { s with heap:=s.heap.push { cls:=.type "list",data:=.seq (strValues l).toArray },toks:=k }:=λl k e=>
  ⟨.ref s.heap.objs.size,_,I.laid (t':=k) (o:=.lst ((Txt.split z y).map V.str)) (λb u e=>Heap.get?_push_of_some _ e) (le_refl _) ⟨by rw[length_map];omega,strValues l,0,by rw[<-e];exact TF l,Heap.get?_push_size _ rfl⟩,rfl,q _ (I.hok.fresh (le_refl _))⟩
 have hn:(partsBetween z (occurrences z y 0 z.length (z.length+1)) y.length).length<=sizeLine:=by
  have e1:=StrLaws.occ_length_le z y 0 z.length (z.length+1);rw[length_partsBetween];omega
 cases h1:(decide (z.length<y.length)||decide (strKind z<strKind y))
 ·cases hf:(occurrences z y 0 z.length (z.length+1)).isEmpty
  ·refine call_meets F.slot_str_split (typeIs_str _ _ _) F.entry_str_split (F.args_str_split_2 _ _) (meets_str_split_sep z y t t' h1 hy hf (by omega) hn) ?_
   show wants _ _ _ { s with toks:=_,heap:=s.heap.push { cls:=.type "list",data:=.seq (strsFrom s.toks (partsBetween z (occurrences z y 0 z.length (z.length+1)) y.length)).toArray } }
   rw[strsFrom_eq];exact fin (numbered s.toks _) _ ((numbered_texts _ _).trans ((if_neg (ne_true_of_eq_false h1)).trans (if_neg (ne_true_of_eq_false hf))).symm)
  ·exact call_meets F.slot_str_split (typeIs_str _ _ _) F.entry_str_split (F.args_str_split_2 _ _) (meets_str_split_not_found z y t t' h1 hy hf)
    (fin [(z,t)] s.toks ((if_neg (ne_true_of_eq_false h1)).trans (if_pos hf)).symm)
 ·exact call_meets F.slot_str_split (typeIs_str _ _ _) F.entry_str_split (F.args_str_split_2 _ _) (meets_str_split_cannot_occur z y t t' h1)
   (fin [(z,t)] s.toks (if_pos h1).symm)
theorem tN:vI X "str.count" (λx xs H Q=>∃z y,x=.str z/\xs=[.str y]/\Q (.int (Txt.count z y)) H):=by
 intro pins s σ H x xs v us Q I rx rs h;obtain⟨z,y,rfl,rfl,q⟩:=h;obtain⟨t,rfl⟩:=rx;obtain⟨u,rfl,ru⟩:=zl2 rs;obtain⟨t',rfl⟩:=ru;exact call_gives F.slot_str_count (typeIs_str _ _ _) F.entry_str_count (F.args_str_count_2 _ _) (gives_str_count z y t t') ⟨.int (Txt.count z y),H,I.tok _,⟨_,rfl⟩,q⟩
def yx(K:Frag)(a:Addr)(n:Nat):It:=
 ⟨λi H=>i<n/\∃xs,aG K H a xs/\xs.length=n,λi H x H'=>H'=H/\∀xs,aG K H a xs->xs[n - 1 - i]? = some x,λi _=>i=n⟩
theorem tP {P : Program} {w : World} {K : Frag} {tg : Expr} (a it : Addr) (n : Nat) : Turn P w K tg (yx K a n) [it] it (λi h => h.IsRevIter it a ((n : Int) - 1 - (i : Nat))) where
  mem := by simp
  obj := λi h st b hb => by
    have e : b = it := by simpa using hb
    subst e;obtain ⟨o, e, c, d⟩ := st;exact ⟨o, e, λv z => by rw [d] at z; cases z⟩
  keep := λi h h' st k => st.at λo e => k it (by simp) o e
  item := by
    intro X hP hw hK hc i pins s σ H E I hf st hg;subst hP hw hK;obtain ⟨hi, xs, hq, hx⟩ := hg;obtain ⟨its, rv, p, hz⟩ := I.list hq;have hlt : n - 1 - i < xs.length := by omega
    obtain ⟨u, hu, ru⟩ := rv.get (getElem?_eq_getElem hlt);obtain ⟨f0, f1, f2, f3, f4, f5⟩ := hf it (by simp);have e1 : (n : Int) - 1 - (i : Nat) = ((n - 1 - i : Nat) : Int) := by omega
    have st1 : s.heap.IsRevIter it a ((n - 1 - i : Nat) : Int) := by rw [<- e1]; exact st
    refine wpAny_pyNext_rev_item st1 p.isList (x := u) (by simpa using hu) λh' st' sb => ?_
    have I1 : Inv X pins σ H { s with heap := h' } := I.turned (t' := s.toks) (λb o hb e => (sb.2 b hb).trans e) f0 f1 f3 f4 f5;have e2 : ((n - 1 - i : Nat) : Int) - 1 = (n : Int) - 1 - ((i + 1 : Nat) : Int) := by omega
    have st2 : h'.IsRevIter it a ((n : Int) - 1 - ((i + 1 : Nat) : Int)) := by rw [<- e2]; exact st'
    obtain ⟨o, e, c, d⟩ := id st2;exact ⟨u, rfl, y6 (s := { s with heap := h' }) e c d (by decide) ⟨_, H, I1, ru, ⟨rfl, λys hy => by rw [I.QM hy hq]; exact getElem?_eq_getElem hlt⟩, st2, λb hb => (hf b hb).1⟩⟩
  done := by
    intro X hP hw hK hc i pins s σ H E I hf st hg;subst hP hw hK;have hi : i = n := hg;obtain ⟨f0, f1, f2, f3, f4, f5⟩ := hf it (by simp);have e1 : (n : Int) - 1 - (i : Nat) = -1 := by omega
    have st1 : s.heap.IsRevIter it a (-1) := by rw [<- e1]; exact st
    exact wpAny_pyNext_rev_end (I.ok.hd hc) st1 λh' eb => ⟨rfl, I.turned (t' := s.toks) (λb o hb e => eb b o hb e) f0 f1 f3 f4 f5⟩
  self := λ_ _ _ _ _ st h => wpAny_pyIter_revIter st h
def tT(K:Frag)(ta:TA):TI:=λσ H R=>ta σ H λvs H1=>∃a xs,vs=[.ref a]/\aG K H1 a xs/\R (yx K a xs.length) H1
theorem ui{tg a:Expr}{ta:TA}{p pos:Pos}(hg:Gl X "reversed")(hm:X.mg "reversed"=none)(ha:PA X [a] ta)(hs:starEach [a] X.env=[(false,eval a X.env)]:=by rfl):PI X tg (.Call (.Name "reversed" p) [a] [] pos) (tT X.K ta):=by
 intro pins s σ H R I h;refine Call_ (y4 I hg hm boot_reversed (PyProof.Rows.callWith_type1 (aX (ha pos pins s σ H _ I h) λus s1 ⟨vs,H1,I1,r1,q1⟩=>?_) hs rfl));obtain⟨b,xs,e,hq,q⟩:=q1;subst e;obtain⟨u,rfl,ru⟩:=zl2 r1;cases ru;obtain⟨its,rv,pl,hz⟩:=I1.list hq;have hlen:=rv.length;refine call_reversed_list pl.isList ?_;have st:Heap.IsRevIter (s1.heap.push (revObj b ((its.toArray.size:Int) - 1))) s1.heap.objs.size b ((xs.length:Int) - 1 - ((0:Nat):Int)):=by
  refine⟨_,Heap.get?_push_size _ rfl,rfl,?_⟩;show(revObj b ((its.toArray.size:Int) - 1)).data=_;have e:(its.toArray.size:Int) - 1=(xs.length:Int) - 1 - ((0:Nat):Int):=by rw[size_toArray,hlen];omega
  rw[e];rfl
 refine wpAny_pyIter_revIter st ?_;refine⟨s1.heap.objs.size,[s1.heap.objs.size],_,_,H1,rfl,I1.kept (t':=s1.toks) λb o e=>Heap.get?_push_of_some _ e,tP b _ xs.length,st,λc hc=>?_,q⟩;have e:c=s1.heap.objs.size:=by simpa using hc
 subst e;exact I1.qT (le_refl _) (I1.hok.fresh (le_refl _))
theorem B9{K:Frag}{a:Addr}{xs:List V}{g:TG}{tb:TS}{D:Ends}{σ:St}{H:Hp}(Pv:Nat->St->Hp->Prop)(h0:Pv 0 σ H)(hl:∀i σ H,i<=xs.length->Pv i σ H->aG K H a xs)
  (hs:∀i x σ H,xs.reverse[i]? = some x->Pv i σ H->g x σ H λσ2 H2=>tb { D with nx:=Pv (i+1),ct:=Pv (i+1),bk:=D.nx } σ2 H2) (hd:∀σ H,Pv xs.length σ H->D.nx σ H):
  ∃W:Nat->Nat->St->Hp->Prop,(∃m,W 0 m σ H)/\∀i m σ H,W i m σ H->
   ((yx K a xs.length).stop i H/\D.nx σ H)\/((yx K a xs.length).go i H/\∃N:St->Hp->Prop,(∀σ' H',N σ' H'->∃m',m'<m/\W (i+1) m' σ' H')/\∀x H',(yx K a xs.length).jC i H x H'->g x σ H' λσ2 H2=>tb { D with nx:=N,ct:=N,bk:=D.nx } σ2 H2):=by
 refine⟨λi m σ H=>m=xs.length - i/\i<=xs.length/\Pv i σ H,⟨xs.length,by simp,zero_le _,h0⟩,?_⟩
 rintro i m σ H ⟨rfl,hi,p⟩
 have q:=hl i σ H hi p
 by_cases hlt:i<xs.length
 ·refine .inr ⟨⟨hlt,xs,q,rfl⟩,Pv (i+1),λσ' H' p'=>⟨xs.length - (i+1),by omega,rfl,hlt,p'⟩,λx H' y=>?_⟩
  obtain⟨e,y⟩:=y;subst e;refine hs i x σ _ ?_ p;rw[List.getElem?_reverse hlt];exact y xs q
 ·have e:i=xs.length:=by omega
  subst e;exact .inl ⟨rfl,hd σ H p⟩
theorem uj {lo : Int} {n : Nat} {D : Addr} {τ : St} {te : TE} {H : Hp} {Q : Hp -> Prop} (Pv : Nat -> Hp -> List V -> Prop) (h0 : Pv 0 (upd H D (.lst [])) [])
    (hs : ∀ i H ys, i < n -> Pv i H ys -> te (some (.int (lo + i)) :: τ) H λy H5 => H5 D = some (.lst ys) /\ ys.length < sizeLine /\ Pv (i + 1) (upd H5 D (.lst (ys ++ [y]))) (ys ++ [y]))
    (hd : ∀ H ys, Pv n H ys -> Q H) :
    ∃ W : Nat -> Nat -> Hp -> List V -> Prop, (∃ m, W 0 m (upd H D (.lst [])) []) /\ ∀ i m H' ys, W i m H' ys ->
      ((pN lo n).stop i H' /\ Q H') \/ ((pN lo n).go i H' /\ ∃ N : Hp -> List V -> Prop, (∀ H' ys', N H' ys' -> ∃ m', m' < m /\ W (i + 1) m' H' ys') /\ ∀ x H2, (pN lo n).jC i H' x H2 -> ur (some x :: τ) H2 λb H4 =>
        if b = true then te (some x :: τ) H4 λy H5 => H5 D = some (.lst ys) /\ ys.length < sizeLine /\ N (upd H5 D (.lst (ys ++ [y]))) (ys ++ [y])
        else N H4 ys) := by
  refine ⟨λi m H ys => m = n - i /\ i <= n /\ Pv i H ys, ⟨n, by simp, zero_le _, h0⟩, ?_⟩
  rintro i m H ys ⟨rfl, hi, p⟩
  by_cases hlt : i < n
  · refine .inr ⟨hlt, Pv (i + 1), λH' ys' p' => ⟨n - (i + 1), by omega, rfl, hlt, p'⟩, λx H' y => ?_⟩
    obtain ⟨e, y⟩ := y;subst e y;exact hs i _ ys hlt p
  · have e : i = n := by omega
    subst e;exact .inl ⟨le_refl _, hd H ys p⟩
end
def Ba(cells:List (Str×Addr)):List (Str×Addr)->Prop
 |[]=>True
 |p::r=>cells.lookup p.1=some p.2/\Ba cells r
def rE(X:Cx)(scope:Scope)(cl:List (Str×Addr)):List Str->List Nat->Prop
 |[],[]=>True
 |y::ys,j::js=>(X.N[j]? = some y/\(X.env.kindOf y=some .cell\/X.env.kindOf y=some .free)/\(∃c,cl.lookup y=some c)/\
   ((relabel scope X.env).names.lookup y=some .cell\/(relabel scope X.env).names.lookup y=some .free))/\rE X scope cl ys js
 |_,_=>False
theorem rE.len{X:Cx}{scope:Scope}{cl:List (Str×Addr)}:∀ {ys:List Str} {js:List Nat},rE X scope cl ys js->ys.length=js.length
 |[],[],_=>rfl
 |_::_,_::_,h=>congrArg (· + 1) (rE.len h.2)
 |[],_::_,h=>h.elim
 |_::_,[],h=>h.elim
theorem rE.get{X:Cx}{scope:Scope}{cl:List (Str×Addr)}:∀ {ys:List Str} {js:List Nat},rE X scope cl ys js->∀(k j:Nat),js[k]? = some j->∃y,ys[k]? = some y/\X.N[j]? = some y/\(X.env.kindOf y=some .cell\/X.env.kindOf y=some .free)/\(∃c,cl.lookup y=some c)/\
  ((relabel scope X.env).names.lookup y=some .cell\/(relabel scope X.env).names.lookup y=some .free)
 |[],[],_,k,j,e=>by simp at e
 |y::_,j'::_,h,0,j,e=>by
  have e':j'=j:=by simpa using e
  subst e';exact⟨y,rfl,h.1⟩
 |_::_,_::_,h,k+1,j,e=>by
  obtain⟨y,h1,h2⟩:=rE.get h.2 k j (by simpa using e);exact⟨y,by simpa using h1,h2⟩
 |[],_::_,h,_,_,_=>h.elim
 |_::_,[],h,_,_,_=>h.elim
theorem Ba.get{cells:List (Str×Addr)}:∀ {cl:List (Str×Addr)},Ba cells cl->∀y c,cl.lookup y=some c->cells.lookup y=some c:=by
 intro cl h y c e;have hm:(y,c)∈cl:=PySem.mem_of_lookup e;clear e
 induction cl with
 |nil=>cases hm
 |cons p r ih=>
  rcases List.mem_cons.mp hm with z|z
  ·rw[<-z] at h;exact h.1
  ·exact ih h.2 z
def hasAll(names:List (Str×NameKind))(cl:List (Str×Addr)):Bool:=names.all λy=>(y.2 != .cell&&y.2 != .free)||(cl.lookup y.1).isSome
theorem Fq{X:Cx}{scope:Scope}{cl:List (Str×Addr)}{x:Str}{ys:List Str}{js:List Nat}(clos:closureFor scope X.env=pure cl)(ci:Ba X.env.cells cl)(F9:∀y∈scope.names,y.2≠.cell)(kind:scope.kind=.function)
  (locs:∀y∈scope.names,y.2=.local->scope.names.lookup y.1=some .local) (own:scope.names.lookup x=some .local) (nd:(x::ys).Nodup) (has:hasAll (relabel scope X.env).names cl=true) (o:rE X scope cl ys js):vK X scope cl x ys js:=by
 refine⟨clos,ci.get,F9,kind,locs,own,nd,λy h=>?_,o.len,o.get⟩;have hh:=List.all_eq_true.mp has;have fin:∀k,(y,k)∈(relabel scope X.env).names->(k=.cell\/k=.free)->∃c,cl.lookup y=some c:=λk hm hk=>by
  have z:=hh _ hm;rw[Bool.or_eq_true] at z
  rcases z with z|z
  ·rw[and_eq_true] at z
   rcases hk with rfl|rfl
   ·exact absurd (show(NameKind.cell != NameKind.cell)=true from z.1) (by decide)
   ·exact absurd (show(NameKind.free != NameKind.free)=true from z.2) (by decide)
  ·exact Option.isSome_iff_exists.mp z
 rcases h with h|h
 ·exact fin _ (PySem.mem_of_lookup h) (.inl rfl)
 ·exact fin _ (PySem.mem_of_lookup h) (.inr rfl)
section
variable {X:Cx}{es:List Expr}{te:TE}{t:TA}{p:Pos}
theorem uk{c:Const}{j:Nat}(ha:PE X (.Constant c j p) te)(hr:PA X es t):PA X (.Constant c j p::es) (iz te t):=pR ha hr rfl
theorem ul{x:Str}(ha:PE X (.Name x p) te)(hr:PA X es t):PA X (.Name x p::es) (iz te t):=pR ha hr rfl
theorem ut{a b:Expr}{op:Operator}(ha:PE X (.BinOp a op b p) te)(hr:PA X es t):PA X (.BinOp a op b p::es) (iz te t):=pR ha hr rfl
theorem uv{f:Expr}{as:List Expr}{ks:List Keyword}(ha:PE X (.Call f as ks p) te)(hr:PA X es t):PA X (.Call f as ks p::es) (iz te t):=pR ha hr rfl
theorem uA{a b:Expr}(ha:PE X (.Subscript a b p) te)(hr:PA X es t):PA X (.Subscript a b p::es) (iz te t):=pR ha hr rfl
theorem uB{as:List Expr}{j:Nat}(ha:PE X (.Tuple as j p) te)(hr:PA X es t):PA X (.Tuple as j p::es) (iz te t):=pR ha hr rfl
theorem uC{as:List Expr}(ha:PE X (.List as p) te)(hr:PA X es t):PA X (.List as p::es) (iz te t):=pR ha hr rfl
theorem uS{a:Expr}{x:Str}(ha:PE X (.Attribute a x p) te)(hr:PA X es t):PA X (.Attribute a x p::es) (iz te t):=pR ha hr rfl
end
section
variable {X:Cx}
theorem va:je X (.type "str") (λxs H Q=>∃z,xs=[.str z]/\Q (.str z) H):=by
 intro pins s σ H xs us Q I r h;obtain⟨z,rfl,q⟩:=h;obtain⟨u,rfl,t,rfl⟩:=zl2 r;exact PySem.P.str_of_str ⟨.str z,H,I,⟨_,rfl⟩,q⟩
end
structure QE(X:Cx)(e:Expr)(t:TE):Prop where
 out:PE X e t
theorem cH:PE=QE:=by
 funext X e t
 exact propext ⟨λh=>⟨h⟩,λh=>h.out⟩
structure QT(X:Cx)(e:Expr)(t:TT):Prop where
 out:PT X e t
theorem n8:PT=QT:=by
 funext X e t
 exact propext ⟨λh=>⟨h⟩,λh=>h.out⟩
structure QW(X:Cx)(e:Expr)(t:TT):Prop where
 out:PW X e t
theorem Ft:PW=QW:=by
 funext X e t
 exact propext ⟨λh=>⟨h⟩,λh=>h.out⟩
structure QA(X:Cx)(es:List Expr)(t:TA):Prop where
 out:PA X es t
theorem iB:PA=QA:=by
 funext X es t
 exact propext ⟨λh=>⟨h⟩,λh=>h.out⟩
structure QS(X:Cx)(st:Stmt)(t:TS):Prop where
 out:PS X st t
theorem jK:PS=QS:=by
 funext X st t
 exact propext ⟨λh=>⟨h⟩,λh=>h.out⟩
structure ve(X:Cx)(st:List Stmt)(t:TS):Prop where
 out:jk X st t
theorem pX:jk=ve:=by
 funext X st t
 exact propext ⟨λh=>⟨h⟩,λh=>h.out⟩
structure QC(X:Cx)(op:CmpOp)(a b:Expr)(t:TE):Prop where
 out:PC X op a b t
theorem yC:PC=QC:=by
 funext X op a b t
 exact propext ⟨λh=>⟨h⟩,λh=>h.out⟩
structure QI(X:Cx)(tg iter:Expr)(wi:TI):Prop where
 out:PI X tg iter wi
theorem rF:PI=QI:=by
 funext X tg iter wi
 exact propext ⟨λh=>⟨h⟩,λh=>h.out⟩
abbrev PW.vN:=n8▸Ft▸@PW.pt
abbrev ak:=cH▸@eJ
abbrev Bb:=cH▸@eK
abbrev Fv:=cH▸@eM
abbrev aK:=cH▸@eP
abbrev oO:=cH▸@eQ
abbrev Fx:=cH▸yC▸@fb
abbrev Fy:=cH▸yC▸@fe
abbrev jZ:=n8▸yC▸@fh
abbrev Bc:=cH▸n8▸@fi
abbrev vO:=n8▸Ft▸@ft
abbrev vP:=n8▸Ft▸@fz
abbrev Fz:=n8▸@gi
abbrev TJ:=cH▸@gm
abbrev TQ:=cH▸@gp
abbrev jL:=cH▸n8▸@gu
abbrev cW:=pX▸@gI
abbrev au:=jK▸pX▸@gL
abbrev aL:=jK▸pX▸@gN
abbrev FJ:=jK▸@gX
abbrev fZ:=cH▸jK▸@hV
abbrev bx:=cH▸jK▸@ie
abbrev cN:=n8▸jK▸pX▸@ik
abbrev vk:=pX▸@im
abbrev aO:=cH▸jK▸@ip
abbrev Bd:=cH▸jK▸@iA
abbrev nT:=n8▸jK▸pX▸@iF
abbrev nU:=cH▸rF▸@iX
abbrev vn:=cH▸rF▸@ja
abbrev TV:=iB▸rF▸@jI
abbrev lK:=jK▸pX▸rF▸@kb
abbrev bK:=cH▸@kg
abbrev uy:=cH▸@ki
abbrev vQ:=cH▸@kD
abbrev cI:=cH▸n8▸@kK
abbrev nY:=cH▸n8▸@lf
abbrev dY:=cH▸@lS
abbrev pY:=cH▸jK▸@me
abbrev vr:=cH▸jK▸@mh
abbrev a7:=iB▸@mI
abbrev vR:=cH▸iB▸@pR
abbrev bf:=cH▸iB▸@ng
abbrev cX:=cH▸iB▸@nh
abbrev c9:=cH▸iB▸@nk
abbrev dU:=cH▸iB▸@nr
abbrev vt:=cH▸iB▸@nw
abbrev TX:=cH▸@ny
abbrev j4:=cH▸iB▸@nE
abbrev uz:=cH▸iB▸@nI
abbrev yE:=cH▸@ot
abbrev yF:=cH▸@ox
abbrev aF:=cH▸@pe
abbrev uE:=cH▸@pM
abbrev gG:=cH▸iB▸@pS
abbrev cA.cU:=pX▸@cA.ok
abbrev a6:=cH▸@pv
abbrev vx:=n8▸@qE
abbrev vU:=cH▸rF▸@sk
abbrev TY:=cH▸jK▸rF▸@sw
abbrev FN:=iB▸jK▸@tf
abbrev U0:=cH▸@tF
abbrev cA.U1:=pX▸@cA.tI
abbrev Bf:=iB▸rF▸@ui
abbrev aM:=cH▸iB▸@uk
abbrev aq:=cH▸iB▸@ul
abbrev iC:=cH▸iB▸@ut
abbrev dw:=cH▸iB▸@uv
abbrev cF:=cH▸iB▸@uA
abbrev d0:=cH▸iB▸@uB
abbrev oR:=cH▸iB▸@uC
abbrev FP:=cH▸iB▸@uS
end L2
namespace Pq
variable {l f D g dB aW la na ga C fL fN fS fR fP fO CN fM fW fE fA fG fJ fF dT CB:PySem.Addr}{m n i k τ c y d:Nat}{H H' H1 H2:L2.Hp}{P:PySem.Program}{w:PySem.World}{K:Frag}{mg:PySem.Str->Option PySem.Value}{base:PySem.Heap}{fd gd cD lD nD sD rD pD tD mD wD eD aD uD gD bD hD iD dP dO dE dJ dG md:PySem.FuncData}{xs ys:List L2.V}{as:List PySem.Addr}{s:List Int}{ks:List Nat}
inductive Plan where
 |text (t:List Nat)|line|cut
 |nest (n:Nat) (p:Plan)|align (p:Plan)|flat (p:Plan)
 |beside (p q:Plan)|choice (p q:Plan)
 deriving DecidableEq
variable {p q:Plan}{ps qs:List Plan}{L:List (Option Nat)}
namespace Plan
def size:Plan->Nat
 |text _=>1|line=>1|cut=>1
 |nest _ p=>p.size+1|align p=>p.size+1|flat p=>p.size+1
 |beside p q=>p.size+q.size+1
 |choice p q=>p.size+q.size+1
def deep:Plan->Nat
 |text _=>0|line=>0|cut=>0
 |nest _ p=>p.deep+1|align p=>p.deep+1|flat p=>p.deep+1
 |beside p q=>max p.deep q.deep+1
 |choice p q=>max p.deep q.deep+1
def sides:Plan->List (List Int)
 |text _=>[[]]|line=>[[]]|cut=>[[]]
 |nest _ p=>p.sides|align p=>p.sides|flat p=>p.sides
 |beside p q=>p.sides.flatMap λr=>q.sides.map λm=>r++m
 |choice p q=>p.sides.map (λr=>0::r)++q.sides.map λr=>1::r
end Plan
def col(t:List Nat):Nat:=(t.reverse.takeWhile (λc=>c != 10)).length
def brk(b:List Nat)(t:List Nat)(m:Nat)(f:Bool):List Nat:=t++if f then b else 10::List.replicate m 32
noncomputable def lay:Plan->List Int->List Nat->Nat->Bool->Option (List Nat×List Int)
 |.text x,b,t,_,_=>some (t++x,b)
 |.line,b,t,m,f=>some (brk [32] t m f,b)
 |.cut,b,t,m,f=>some (brk [] t m f,b)
 |.nest n p,b,t,m,f=>lay p b t (m+n) f
 |.align p,b,t,_,f=>lay p b t (col t) f
 |.flat p,b,t,m,_=>lay p b t m true
 |.beside p q,b,t,m,f=>(lay p b t m f).bind λr=>lay q r.2 r.1 m f
 |.choice _ _,[],_,_,_=>none
 |.choice p q,x::b,t,m,f=>if x=0 then lay p b t m f else if x=1 then lay q b t m f else none
theorem rG:∀(p:Plan) {r:List Int} (_:r∈p.sides) (b:List Int) (t:List Nat) (m:Nat) (f:Bool),∃t',lay p (r++b) t m f=some (t',b)
 |.text x,r,h,b,t,m,f=>by simp[Plan.sides] at h;subst h;exact⟨_,rfl⟩
 |.line,r,h,b,t,m,f=>by simp[Plan.sides] at h;subst h;exact⟨_,rfl⟩
 |.cut,r,h,b,t,m,f=>by simp[Plan.sides] at h;subst h;exact⟨_,rfl⟩
 |.nest n p,r,h,b,t,m,f=>rG p h b t (m+n) f
 |.align p,r,h,b,t,m,f=>rG p h b t (col t) f
 |.flat p,r,h,b,t,m,f=>rG p h b t m true
 |.beside p q,r,h,b,t,m,f=>by
  simp only[Plan.sides,mem_flatMap,mem_map] at h
  obtain⟨r1,h1,r2,h2,rfl⟩:=h;obtain⟨t1,e1⟩:=rG p h1 (r2++b) t m f;obtain⟨t2,e2⟩:=rG q h2 b t1 m f;refine⟨t2,?_⟩;rw[append_assoc];show(lay p (r1++(r2++b)) t m f).bind _=_;rw[e1];exact e2
 |.choice p q,r,h,b,t,m,f=>by
  simp only[Plan.sides,mem_append,mem_map] at h
  rcases h with⟨r1,h1,rfl⟩|⟨r1,h1,rfl⟩
  ·obtain⟨t1,e1⟩:=rG p h1 b t m f
   exact⟨t1,by show(if(0:Int)=0 then lay p (r1++b) t m f else _)=_;rw[if_pos rfl,e1]⟩
  ·obtain⟨t1,e1⟩:=rG q h1 b t m f
   exact⟨t1,by show(if(1:Int)=0 then _ else if(1:Int)=1 then lay q (r1++b) t m f else none)=_;rw[if_neg (by decide),if_pos rfl,e1]⟩
theorem rH:∀(p:Plan) (b b':List Int) (t t':List Nat) (m:Nat) (f:Bool),lay p b t m f=some (t',b')->∃r∈p.sides,b=r++b'
 |.text x,b,b',t,t',m,f,h=>by simp[lay] at h;exact⟨[],by simp[Plan.sides],by simp[h.2]⟩
 |.line,b,b',t,t',m,f,h=>by simp[lay] at h;exact⟨[],by simp[Plan.sides],by simp[h.2]⟩
 |.cut,b,b',t,t',m,f,h=>by simp[lay] at h;exact⟨[],by simp[Plan.sides],by simp[h.2]⟩
 |.nest n p,b,b',t,t',m,f,h=>rH p b b' t t' (m+n) f h
 |.align p,b,b',t,t',m,f,h=>rH p b b' t t' (col t) f h
 |.flat p,b,b',t,t',m,f,h=>rH p b b' t t' m true h
 |.beside p q,b,b',t,t',m,f,h=>by
  have h':(lay p b t m f).bind (λr=>lay q r.2 r.1 m f)=some (t',b'):=h;cases e:lay p b t m f with
  |none=>rw[e] at h';cases h'
  |some x=>
   obtain⟨t1,b1⟩:=x;rw[e] at h'
   obtain⟨r1,m1,e1⟩:=rH p b b1 t t1 m f e;obtain⟨r2,m2,e2⟩:=rH q b1 b' t1 t' m f h';exact⟨r1++r2,List.mem_flatMap.mpr ⟨r1,m1,List.mem_map.mpr ⟨r2,m2,rfl⟩⟩,by rw[e1,e2,append_assoc]⟩
 |.choice p q,[],b',t,t',m,f,h=>by cases h
 |.choice p q,x::b,b',t,t',m,f,h=>by
  have h':(if x=0 then lay p b t m f else if x=1 then lay q b t m f else none)=some (t',b'):=h
  by_cases c0:x=0
  ·rw[if_pos c0] at h'
   obtain⟨r1,m1,e1⟩:=rH p b b' t t' m f h';exact⟨0::r1,mem_append_left _ (List.mem_map.mpr ⟨r1,m1,rfl⟩),by rw[c0,e1];rfl⟩
  ·rw[if_neg c0] at h'
   by_cases c1:x=1
   ·rw[if_pos c1] at h'
    obtain⟨r1,m1,e1⟩:=rH q b b' t t' m f h';exact⟨1::r1,mem_append_right _ (List.mem_map.mpr ⟨r1,m1,rfl⟩),by rw[c1,e1];rfl⟩
   ·rw[if_neg c1] at h';cases h'
theorem vy(p:Plan)(b:List Int)(t:List Nat)(m:Nat)(f:Bool):b∈p.sides↔∃t',lay p b t m f=some (t',[]):=by
 constructor
 ·intro h
  have:=rG p h [] t m f
  simpa using this
 ·rintro⟨t',h⟩
  obtain⟨r,hr,e⟩:=rH p b [] t t' m f h;rw[append_nil] at e
  rw[e];exact hr
theorem rJ:∀p:Plan,p.sides≠[]
 |.text _=>by simp[Plan.sides]
 |.line=>by simp[Plan.sides]
 |.cut=>by simp[Plan.sides]
 |.nest _ p=>rJ p
 |.align p=>rJ p
 |.flat p=>rJ p
 |.beside p q=>by
  have hp:=rJ p;have hq:=rJ q;simp only[Plan.sides];intro h;rw[List.flatMap_eq_nil_iff] at h
  cases e:p.sides with
  |nil=>exact hp e
  |cons x xs=>
   have:=h x (by rw[e];exact mem_cons_self);exact hq (List.map_eq_nil_iff.mp this)
 |.choice p q=>by
  have hp:=rJ p;simp only[Plan.sides];intro h;exact hp (List.map_eq_nil_iff.mp (List.append_eq_nil_iff.mp h).1)
namespace Plan
def grow:Plan->Nat
 |text t=>t.length|line=>1|cut=>0
 |nest n p=>n+p.grow|align p=>p.grow|flat p=>p.grow
 |beside p q=>p.grow+q.grow
 |choice p q=>max p.grow q.grow
def leaves:Plan->Nat
 |text _=>1|line=>1|cut=>1
 |nest _ p=>p.leaves|align p=>p.leaves|flat p=>p.leaves
 |beside p q=>p.leaves+q.leaves
 |choice p q=>max p.leaves q.leaves
end Plan
theorem U2{α:Type}(f:α->Bool)(b:List α):∀a:List α,((a++b).takeWhile f).length<=a.length+(b.takeWhile f).length
 |[]=>by simp
 |x::a=>by
  rw[cons_append,List.takeWhile_cons]
  split
  ·have:=U2 f b a
   simp only[length_cons];omega
  ·simp
theorem U4(t x:List Nat):col (t++x)<=col t+x.length:=by
 unfold col;rw[reverse_append];have:=U2 (λc=>c != 10) t.reverse x.reverse;rw[length_reverse] at this
 omega
theorem pZ(t x:List Nat)(h:∀c∈x,c≠10):col (t++x)=col t+x.length:=by
 unfold col;rw[reverse_append];have e:∀a b:List Nat,(∀c∈a,c≠10)->((a++b).takeWhile (λc=>c != 10)).length=a.length+(b.takeWhile (λc=>c != 10)).length:=by
  intro a
  induction a with
  |nil=>intro b _;simp
  |cons y a ih=>
   intro b hb;rw[cons_append,List.takeWhile_cons,if_pos (by simpa using hb y mem_cons_self)];simp only[length_cons];rw[ih b λc hc=>hb c (mem_cons_of_mem _ hc)];omega
 rw[e x.reverse t.reverse (λc hc=>h c (List.mem_reverse.mp hc)),length_reverse];omega
theorem vV(t:List Nat)(m:Nat):col (t++10::List.replicate m 32)=m:=by
 have e:t++10::List.replicate m 32=(t++[10])++List.replicate m 32:=by simp
 rw[e,pZ _ _ (by intro c hc;rw[List.mem_replicate] at hc;omega),List.length_replicate];unfold col;simp
theorem U6(b t:List Nat)(m:Nat)(f:Bool):col (brk b t m f)<=max (col t) m+b.length:=by
 unfold brk;cases f
 ·simp only[false_eq_true,if_false];rw[vV];omega
 ·simp only[if_true];have:=U4 t b;omega
theorem U7(b t:List Nat)(m:Nat)(f:Bool)(hb:b.length<=1):(brk b t m f).length<=t.length+1+m:=by
 unfold brk;cases f
 ·simp;omega
 ·simp;omega
theorem rK:∀(p:Plan) (b b':List Int) (t t':List Nat) (m:Nat) (f:Bool),lay p b t m f=some (t',b')->
  col t'<=max (col t) m+p.grow/\t'.length<=t.length+p.leaves*(max (col t) m+p.grow+1)
 |.text x,b,b',t,t',m,f,h=>by
  simp only[lay,Option.some.injEq,Prod.mk.injEq] at h
  obtain⟨rfl,_⟩:=h;have:=U4 t x;simp only[Plan.grow,Plan.leaves,length_append];omega
 |.line,b,b',t,t',m,f,h=>by
  simp only[lay,Option.some.injEq,Prod.mk.injEq] at h
  obtain⟨rfl,_⟩:=h;have h1:=U6 [32] t m f;have h2:=U7 [32] t m f (by simp);simp only[Plan.grow,Plan.leaves,length_singleton] at *;omega
 |.cut,b,b',t,t',m,f,h=>by
  simp only[lay,Option.some.injEq,Prod.mk.injEq] at h
  obtain⟨rfl,_⟩:=h;have h1:=U6 [] t m f;have h2:=U7 [] t m f (by simp);simp only[Plan.grow,Plan.leaves,length_nil] at *;omega
 |.nest n p,b,b',t,t',m,f,h=>by
  have ih:=rK p b b' t t' (m+n) f h;obtain⟨i1,i2⟩:=ih;have e:max (col t) (m+n)+p.grow<=max (col t) m+(n+p.grow):=by omega
  refine⟨le_trans i1 e,le_trans i2 ?_⟩;exact add_le_add_left (mul_le_mul_left _ (succ_le_succ e)) _
 |.align p,b,b',t,t',m,f,h=>by
  obtain⟨i1,i2⟩:=rK p b b' t t' (col t) f h;have e:max (col t) (col t)+p.grow<=max (col t) m+p.grow:=by omega
  refine⟨le_trans i1 e,le_trans i2 ?_⟩;exact add_le_add_left (mul_le_mul_left _ (succ_le_succ e)) _
 |.flat p,b,b',t,t',m,f,h=>rK p b b' t t' m true h
 |.beside p q,b,b',t,t',m,f,h=>by
  have h':(lay p b t m f).bind (λr=>lay q r.2 r.1 m f)=some (t',b'):=h;cases e:lay p b t m f with
  |none=>rw[e] at h';cases h'
  |some x=>
   obtain⟨t1,b1⟩:=x;rw[e] at h'
   obtain⟨i1,i2⟩:=rK p b b1 t t1 m f e;obtain⟨j1,j2⟩:=rK q b1 b' t1 t' m f h';have e1:max (col t1) m+q.grow<=max (col t) m+(p.grow+q.grow):=by omega
   have e2:max (col t) m+p.grow<=max (col t) m+(p.grow+q.grow):=by omega
   refine⟨le_trans j1 e1,?_⟩;have k1:q.leaves*(max (col t1) m+q.grow+1)<=q.leaves*(max (col t) m+(p.grow+q.grow)+1):=mul_le_mul_left _ (succ_le_succ e1);have k2:p.leaves*(max (col t) m+p.grow+1)<=p.leaves*(max (col t) m+(p.grow+q.grow)+1):=mul_le_mul_left _ (succ_le_succ e2);show t'.length<=t.length+(p.leaves+q.leaves)*(max (col t) m+(p.grow+q.grow)+1);rw[add_mul];omega
 |.choice p q,[],b',t,t',m,f,h=>by cases h
 |.choice p q,x::b,b',t,t',m,f,h=>by
  have h':(if x=0 then lay p b t m f else if x=1 then lay q b t m f else none)=some (t',b'):=h;have mono:∀(r:Plan),r.grow<=max p.grow q.grow->r.leaves<=max p.leaves q.leaves->(col t'<=max (col t) m+r.grow/\t'.length<=t.length+r.leaves*(max (col t) m+r.grow+1))->
    col t'<=max (col t) m+max p.grow q.grow/\t'.length<=t.length+max p.leaves q.leaves*(max (col t) m+max p.grow q.grow+1):=by
   intro r h1 h2 ⟨i1,i2⟩;refine⟨by omega,le_trans i2 (add_le_add_left (mul_le_mul h2 (by omega)) _)⟩
  by_cases c0:x=0
  ·rw[if_pos c0] at h'
   exact mono p (Nat.le_max_left _ _) (Nat.le_max_left _ _) (rK p b b' t t' m f h')
  ·rw[if_neg c0] at h'
   by_cases c1:x=1
   ·rw[if_pos c1] at h'
    exact mono q (Nat.le_max_right _ _) (Nat.le_max_right _ _) (rK q b b' t t' m f h')
   ·rw[if_neg c1] at h';cases h'
abbrev Step:=Plan×Nat×Bool
noncomputable def gA:List Step->List Int->List Nat->Option (List Nat×List Int)
 |[],b,t=>some (t,b)
 |(p,m,f)::r,b,t=>(lay p b t m f).bind λx=>gA r x.2 x.1
def zl3:List Step->Nat
 |[]=>0
 |(p,_,_)::r=>p.size+zl3 r
theorem vz(x:List Nat)(m:Nat)(f:Bool)(r:List Step)(b:List Int)(t:List Nat):gA ((.text x,m,f)::r) b t=gA r b (t++x):=rfl
theorem vE(m:Nat)(f:Bool)(r:List Step)(b:List Int)(t:List Nat):gA ((.line,m,f)::r) b t=gA r b (brk [32] t m f):=rfl
theorem vF(m:Nat)(f:Bool)(r:List Step)(b:List Int)(t:List Nat):gA ((.cut,m,f)::r) b t=gA r b (brk [] t m f):=rfl
theorem vS(n:Nat)(p:Plan)(m:Nat)(f:Bool)(r:List Step)(b:List Int)(t:List Nat):gA ((.nest n p,m,f)::r) b t=gA ((p,m+n,f)::r) b t:=rfl
theorem vT(p:Plan)(m:Nat)(f:Bool)(r:List Step)(b:List Int)(t:List Nat):gA ((.align p,m,f)::r) b t=gA ((p,col t,f)::r) b t:=rfl
theorem wc(p:Plan)(m:Nat)(f:Bool)(r:List Step)(b:List Int)(t:List Nat):gA ((.flat p,m,f)::r) b t=gA ((p,m,true)::r) b t:=rfl
theorem wm(p q:Plan)(m:Nat)(f:Bool)(r:List Step)(b:List Int)(t:List Nat):gA ((.beside p q,m,f)::r) b t=gA ((p,m,f)::(q,m,f)::r) b t:=by
 show((lay p b t m f).bind λx=>lay q x.2 x.1 m f).bind _=(lay p b t m f).bind λx=>(lay q x.2 x.1 m f).bind _
 rw[Option.bind_assoc]
theorem wo(p q:Plan)(m:Nat)(f:Bool)(r:List Step)(b:List Int)(t:List Nat):gA ((.choice p q,m,f)::r) (0::b) t=gA ((p,m,f)::r) b t:=by
 show(if(0:Int)=0 then lay p b t m f else _).bind _=_;rw[if_pos rfl];rfl
theorem wt(p q:Plan)(m:Nat)(f:Bool)(r:List Step)(b:List Int)(t:List Nat):gA ((.choice p q,m,f)::r) (1::b) t=gA ((q,m,f)::r) b t:=by
 show(if(1:Int)=0 then _ else if(1:Int)=1 then lay q b t m f else none).bind _=_;rw[if_neg (by decide),if_pos rfl];rfl
theorem wv(p q:Plan)(m:Nat)(f:Bool)(r:List Step)(t:List Nat):gA ((.choice p q,m,f)::r) [] t=none:=rfl
theorem wx(p q:Plan)(m:Nat)(f:Bool)(r:List Step)(x:Int)(b:List Int)(t:List Nat)(h0:x≠0)(h1:x≠1):gA ((.choice p q,m,f)::r) (x::b) t=none:=by
 show(if x=0 then _ else if x=1 then _ else none).bind _=_;rw[if_neg h0,if_neg h1];rfl
theorem wy(p:Plan)(b:List Int)(t:List Nat):gA [(p,0,false)] b t=lay p b t 0 false:=by
 show(lay p b t 0 false).bind (λx=>some (x.1,x.2))=_;cases lay p b t 0 false<;>rfl
theorem lM{α β:Type}(f:α->List β)(n:Nat):∀l:List α,(∀x∈l,(f x).length=n)->(l.flatMap f).length=l.length*n
 |[],_=>by simp
 |x::l,h=>by
  rw[flatMap_cons,length_append,h x mem_cons_self,lM f n l λy hy=>h y (mem_cons_of_mem _ hy),length_cons,add_mul];omega
theorem FQ(p q:Plan):(Plan.beside p q).sides.length=p.sides.length*q.sides.length:=
 lM _ _ _ λ_ _=>length_map _
theorem FT(p q:Plan):(Plan.choice p q).sides.length=p.sides.length+q.sides.length:=by
 simp[Plan.sides]
theorem U8(p:Plan):1<=p.sides.length:=by
 cases e:p.sides with
 |nil=>exact absurd e (rJ p)
 |cons x r=>simp
theorem nZ:∀(p:Plan) (r:List Int),r∈p.sides->r.length<=p.size
 |.text _,r,h=>by simp[Plan.sides] at h;subst h;simp
 |.line,r,h=>by simp[Plan.sides] at h;subst h;simp
 |.cut,r,h=>by simp[Plan.sides] at h;subst h;simp
 |.nest _ p,r,h=>le_succ_of_le (nZ p r h)
 |.align p,r,h=>le_succ_of_le (nZ p r h)
 |.flat p,r,h=>le_succ_of_le (nZ p r h)
 |.beside p q,r,h=>by
  simp only[Plan.sides,mem_flatMap,mem_map] at h
  obtain⟨r1,h1,r2,h2,rfl⟩:=h;have i1:=nZ p r1 h1;have i2:=nZ q r2 h2;simp only[length_append,Plan.size];omega
 |.choice p q,r,h=>by
  simp only[Plan.sides,mem_append,mem_map] at h
  rcases h with⟨r1,h1,rfl⟩|⟨r1,h1,rfl⟩
  ·have i1:=nZ p r1 h1
   simp only[length_cons,Plan.size];omega
  ·have i1:=nZ q r1 h1
   simp only[length_cons,Plan.size];omega
def cell(ns:List Int)(k:Int):Int:=if ns.isEmpty then 0 else ns.getD (k % ns.length).toNat 0
noncomputable def U9(ns:List Int)(k:Int):Int:=(cell ns k+104729*(k+1)) % 4294967291*48271 % 4294967279
def mix(ns:List Int)(k:Int):Int:=(U9 ns k / 64*69621+U9 ns k) % 4294967231
theorem xa(ns:List Int)(k:Int):0<=mix ns k:=Int.emod_nonneg _ (by decide)
noncomputable def zn3:List Nat:=[32,33,34,35,36,38,39,40,41,42,43,44,45,46,47,48,49,50,51,52,53,54,55,56,57,58,59,60,61,62,63,64,65,66,67,68,69,70,71,72,73,74,75,76,77,78,79,
 80,81,82,83,84,85,86,87,88,89,90,91,92,93,94,95,96,97,98,99,100,101,102,103,104,105,106,107,108,109,110,111,112,113,114,115,116,117,118,119,120,121,122,123,124,125,126]
def Plan.Flat:Plan->Prop
 |.text t=>∀c∈t,c≠10
 |.line=>True|.cut=>True
 |.nest _ p=>p.Flat|.align p=>p.Flat|.flat p=>p.Flat
 |.beside p q=>p.Flat/\q.Flat
 |.choice p q=>p.Flat/\q.Flat
theorem qb:∀(p:Plan) (b b':List Int) (t t':List Nat) (m:Nat) (f:Bool),lay p b t m f=some (t',b')->t.length<=t'.length
 |.text x,b,b',t,t',m,f,h=>by simp only[lay,Option.some.injEq,Prod.mk.injEq] at h;rw[<-h.1];simp
 |.line,b,b',t,t',m,f,h=>by simp only[lay,Option.some.injEq,Prod.mk.injEq] at h;rw[<-h.1];simp[brk]
 |.cut,b,b',t,t',m,f,h=>by simp only[lay,Option.some.injEq,Prod.mk.injEq] at h;rw[<-h.1];simp[brk]
 |.nest n p,b,b',t,t',m,f,h=>qb p b b' t t' (m+n) f h
 |.align p,b,b',t,t',m,f,h=>qb p b b' t t' (col t) f h
 |.flat p,b,b',t,t',m,f,h=>qb p b b' t t' m true h
 |.beside p q,b,b',t,t',m,f,h=>by
  have h':(lay p b t m f).bind (λr=>lay q r.2 r.1 m f)=some (t',b'):=h;cases e:lay p b t m f with
  |none=>rw[e] at h';cases h'
  |some x=>
   obtain⟨t1,b1⟩:=x;rw[e] at h'
   exact le_trans (qb p b b1 t t1 m f e) (qb q b1 b' t1 t' m f h')
 |.choice p q,[],b',t,t',m,f,h=>by cases h
 |.choice p q,x::b,b',t,t',m,f,h=>by
  have h':(if x=0 then lay p b t m f else if x=1 then lay q b t m f else none)=some (t',b'):=h
  by_cases c0:x=0
  ·rw[if_pos c0] at h';exact qb p b b' t t' m f h'
  ·rw[if_neg c0] at h'
   by_cases c1:x=1
   ·rw[if_pos c1] at h';exact qb q b b' t t' m f h'
   ·rw[if_neg c1] at h';cases h'
def jm:List Step->Nat
 |[]=>0
 |(p,_,_)::r=>p.grow+jm r
def rM(G:Nat):List Step->Prop
 |[]=>True
 |(p,m,f)::r=>m+(p.grow+jm r)<=G/\p.Flat/\rM G r
noncomputable def gR:Plan->Nat->Bool->List (List Nat)
 |.text x,_,_=>[x]
 |.line,m,f=>if f then[[32]] else[[10],List.replicate m 32]
 |.cut,m,f=>if f then[[]] else[[10],List.replicate m 32]
 |_,_,_=>[]
def lN:Plan->Nat->Nat->Bool->Nat
 |.text x,c,_,_=>c+x.length
 |.line,c,m,f=>if f then c+1 else m
 |.cut,c,m,f=>if f then c else m
 |_,c,_,_=>c
def uF:Plan->Prop
 |.text _=>True|.line=>True|.cut=>True|_=>False
theorem xb (h:uF p)(m:Nat)(f:Bool)(r:List Step)(b:List Int)(t:List Nat):gA ((p,m,f)::r) b t=gA r b (t++(gR p m f).flatten):=by
 cases p with
 |text x=>rw[vz];simp[gR]
 |line=>rw[vE];cases f<;>simp[gR,brk]
 |cut=>rw[vF];cases f<;>simp[gR,brk]
 |_=>exact h.elim
theorem xc (h:uF p)(hf:p.Flat)(m:Nat)(f:Bool)(t:List Nat):col (t++(gR p m f).flatten)=lN p (col t) m f:=by
 cases p with
 |text x=>simp only[gR,lN,flatten_cons,flatten_nil,append_nil];exact pZ t x hf
 |line=>
  cases f
  ·simp only[gR,lN,false_eq_true,if_false,flatten_cons,flatten_nil,append_nil,singleton_append];exact vV t m
  ·simp only[gR,lN,if_true,flatten_cons,flatten_nil,append_nil];exact pZ t [32] (by intro c hc;simp at hc;omega)
 |cut=>
  cases f
  ·simp only[gR,lN,false_eq_true,if_false,flatten_cons,flatten_nil,append_nil,singleton_append];exact vV t m
  ·simp[gR,lN]
 |_=>exact h.elim
theorem zm5 (h:uF p)(m:Nat)(f:Bool):((gR p m f).flatten).length<=p.grow+m+1:=by
 cases p with
 |text x=>simp[gR,Plan.grow];omega
 |line=>cases f<;>simp[gR,Plan.grow]<;>omega
 |cut=>cases f<;>simp[gR,Plan.grow]<;>omega
 |_=>exact h.elim
theorem xf(p:Plan)(m:Nat)(f:Bool):(gR p m f).length<=2:=by
 cases p with
 |text x=>simp[gR]
 |line=>cases f<;>simp[gR]
 |cut=>cases f<;>simp[gR]
 |_=>simp[gR]
theorem xh (h:uF p)(c m:Nat)(f:Bool)(s G:Nat)(h1:c+(p.grow+s)<=G)(h2:m+(p.grow+s)<=G):lN p c m f+s<=G:=by
 cases p with
 |text x=>simp only[lN,Plan.grow] at *;omega
 |line=>cases f<;>simp only[lN,Plan.grow,false_eq_true,if_false,if_true] at * <;> omega
 |cut=>cases f<;>simp only[lN,Plan.grow,false_eq_true,if_false,if_true] at * <;> omega
 |_=>exact h.elim
noncomputable def jM:Plan->Nat->Bool->Nat->List Step
 |.nest k p,m,f,_=>[(p,m+k,f)]
 |.align p,_,f,c=>[(p,c,f)]
 |.flat p,m,_,_=>[(p,m,true)]
 |.beside p q,m,f,_=>[(q,m,f),(p,m,f)]
 |_,_,_,_=>[]
def yG:Plan->Prop
 |.nest _ _=>True|.align _=>True|.flat _=>True|.beside _ _=>True|_=>False
theorem xi (h:yG p)(m:Nat)(f:Bool)(r:List Step)(b:List Int)(t:List Nat):gA ((p,m,f)::r) b t=gA ((jM p m f (col t)).reverse++r) b t:=by
 cases p with
 |nest k p=>rw[vS];rfl
 |align p=>rw[vT];rfl
 |flat p=>rw[wc];rfl
 |beside p q=>rw[wm];rfl
 |_=>exact h.elim
theorem xk (h:yG p)(m:Nat)(f:Bool)(c:Nat)(r:List Step):zl3 ((jM p m f c).reverse++r)<zl3 ((p,m,f)::r):=by
 cases p with
 |nest k p=>simp[jM,zl3,Plan.size]
 |align p=>simp[jM,zl3,Plan.size]
 |flat p=>simp[jM,zl3,Plan.size]
 |beside p q=>simp[jM,zl3,Plan.size];omega
 |_=>exact h.elim
theorem xl (h:yG p)(m:Nat)(f:Bool)(c G:Nat)(r:List Step)(hF:rM G ((p,m,f)::r))(hc:c+jm ((p,m,f)::r)<=G):rM G ((jM p m f c).reverse++r)/\c+jm ((jM p m f c).reverse++r)<=G:=by
 obtain⟨h1,h2,h3⟩:=hF;cases p with
 |nest k p=>simp only[jM,List.reverse_singleton,singleton_append,rM,jm,Plan.grow,Plan.Flat] at *;exact⟨⟨by omega,h2,h3⟩,by omega⟩
 |align p=>simp only[jM,List.reverse_singleton,singleton_append,rM,jm,Plan.grow,Plan.Flat] at *;exact⟨⟨by omega,h2,h3⟩,by omega⟩
 |flat p=>simp only[jM,List.reverse_singleton,singleton_append,rM,jm,Plan.grow,Plan.Flat] at *;exact⟨⟨by omega,h2,h3⟩,by omega⟩
 |beside p q=>
  have e:(jM (.beside p q) m f c).reverse++r=(p,m,f)::(q,m,f)::r:=rfl;rw[e];simp only[rM,jm,Plan.grow,Plan.Flat] at*
  exact⟨⟨by omega,h2.1,by omega,h2.2,h3⟩,by omega⟩
 |_=>exact h.elim
theorem zl7(p:Plan):1<=p.size:=by cases p<;>simp[Plan.size]
theorem Ua:∀st:List Step,st.length<=zl3 st
 |[]=>le_refl _
 |(p,_,_)::r=>by have:=Ua r;have:=zl7 p;simp only[length_cons,zl3];omega
theorem rN:∀(p:Plan) (b b' c:List Int) (t t':List Nat) (m:Nat) (f:Bool),lay p b t m f=some (t',b')->lay p (b++c) t m f=some (t',b'++c)
 |.text x,b,b',c,t,t',m,f,h=>by simp only[lay,Option.some.injEq,Prod.mk.injEq] at h ⊢;exact⟨h.1,by rw[h.2]⟩
 |.line,b,b',c,t,t',m,f,h=>by simp only[lay,Option.some.injEq,Prod.mk.injEq] at h ⊢;exact⟨h.1,by rw[h.2]⟩
 |.cut,b,b',c,t,t',m,f,h=>by simp only[lay,Option.some.injEq,Prod.mk.injEq] at h ⊢;exact⟨h.1,by rw[h.2]⟩
 |.nest n p,b,b',c,t,t',m,f,h=>rN p b b' c t t' (m+n) f h
 |.align p,b,b',c,t,t',m,f,h=>rN p b b' c t t' (col t) f h
 |.flat p,b,b',c,t,t',m,f,h=>rN p b b' c t t' m true h
 |.beside p q,b,b',c,t,t',m,f,h=>by
  have h':(lay p b t m f).bind (λr=>lay q r.2 r.1 m f)=some (t',b'):=h;show(lay p (b++c) t m f).bind (λr=>lay q r.2 r.1 m f)=some (t',b'++c);cases e:lay p b t m f with
  |none=>rw[e] at h';cases h'
  |some x=>
   obtain⟨t1,b1⟩:=x;rw[e] at h'
   rw[rN p b b1 c t t1 m f e];exact rN q b1 b' c t1 t' m f h'
 |.choice p q,[],b',c,t,t',m,f,h=>by cases h
 |.choice p q,x::b,b',c,t,t',m,f,h=>by
  have h':(if x=0 then lay p b t m f else if x=1 then lay q b t m f else none)=some (t',b'):=h;show(if x=0 then lay p (b++c) t m f else if x=1 then lay q (b++c) t m f else none)=some (t',b'++c)
  by_cases c0:x=0
  ·rw[if_pos c0] at h' ⊢;exact rN p b b' c t t' m f h'
  ·rw[if_neg c0] at h' ⊢
   by_cases c1:x=1
   ·rw[if_pos c1] at h' ⊢;exact rN q b b' c t t' m f h'
   ·rw[if_neg c1] at h';cases h'
def xm(p:Plan)(r:List Int)(t:List Nat)(m:Nat)(f:Bool):List Nat:=((lay p r t m f).getD ([],[])).1
def zn5(p:Plan)(t:List Nat)(m:Nat)(f:Bool):List (List Nat):=p.sides.map λr=>xm p r t m f
theorem FW{α β:Type}{f g:α->List β}:∀ {l:List α},(∀a∈l,f a=g a)->l.flatMap f=l.flatMap g
 |[],_=>rfl
 |a::l,h=>by rw[flatMap_cons,flatMap_cons,h a mem_cons_self,FW λb hb=>h b (mem_cons_of_mem _ hb)]
def run(m:Nat)(f:Bool)(ps:List Plan)(ts:List (List Nat)):List (List Nat):=ps.foldl (λts p=>ts.flatMap λt=>zn5 p t m f) ts
noncomputable def jn:Nat->List Plan->Plan
 |0,_=>.text []
 |_+1,[]=>.text []
 |_+1,[p]=>p
 |n+1,ps=>.beside (jn n (ps.take (ps.length / 2))) (jn n (ps.drop (ps.length / 2)))
theorem rO(n:Nat) (h:2<=ps.length):jn (n+1) ps=.beside (jn n (ps.take (ps.length / 2))) (jn n (ps.drop (ps.length / 2))):=by
 match ps,h with
 |_::_::_,_=>rfl
theorem yH{R:Plan->Prop}(h0:R (.text []))(hb:∀p q,R p->R q->R (.beside p q)):∀(n:Nat) (ps:List Plan),(∀p∈ps,R p)->R (jn n ps)
 |0,_,_=>h0
 |n+1,[],_=>h0
 |n+1,[p],h=>h p (by simp)
 |n+1,a::b::ps,h=>by
  have h2:2<=(a::b::ps).length:=by simp
  generalize hq:a::b::ps=qs at h h2 ⊢
  rw[rO n h2];exact hb _ _ (yH h0 hb n _ λp hp=>h p (List.mem_of_mem_take hp)) (yH h0 hb n _ λp hp=>h p (List.mem_of_mem_drop hp))
noncomputable def post:Plan->List Plan
 |.text x=>[.text x]|.line=>[.line]|.cut=>[.cut]
 |.nest n p=>post p++[.nest n p]|.align p=>post p++[.align p]|.flat p=>post p++[.flat p]
 |.beside p q=>post p++(post q++[.beside p q])
 |.choice p q=>post p++(post q++[.choice p q])
def sizes(st:List Plan):Nat:=(st.map Plan.size).sum
noncomputable def xt:Plan->List Plan->Option (List Plan)
 |.beside p q,b::a::s=>if b=q/\a=p then some (.beside p q::s) else none
 |.choice p q,b::a::s=>if b=q/\a=p then some (.choice p q::s) else none
 |.beside _ _,_=>none
 |.choice _ _,_=>none
 |.nest n p,b::s=>if b=p then some (.nest n p::s) else none
 |.align p,b::s=>if b=p then some (.align p::s) else none
 |.flat p,b::s=>if b=p then some (.flat p::s) else none
 |.nest _ _,[]=>none
 |.align _,[]=>none
 |.flat _,[]=>none
 |p,s=>some (p::s)
def stk:List Plan->List Plan->Option (List Plan)
 |[],s=>some s
 |p::r,s=>(xt p s).bind (stk r)
def grp(p:Plan):Plan:=.choice (.flat p) p
def Sm(t:List Nat):Prop:=∀c∈t,c<1114112
theorem Sm.app{a b:List Nat}(h1:Sm a)(h2:Sm b):Sm (a++b):=λc hc=>by
 rcases List.mem_append.mp hc with z|z
 ·exact h1 c z
 ·exact h2 c z
theorem Sm.rep(n c:Nat)(h:c<1114112):Sm (List.replicate n c):=λd hd=>by rw[(List.mem_replicate.mp hd).2];exact h
def Plan.lO:Plan->Prop
 |.text t=>Sm t
 |.line=>True|.cut=>True
 |.nest _ p=>p.lO|.align p=>p.lO|.flat p=>p.lO
 |.beside p q=>p.lO/\q.lO
 |.choice p q=>p.lO/\q.lO
theorem Ub(b t:List Nat)(m:Nat)(f:Bool)(hb:Sm b)(ht:Sm t):Sm (brk b t m f):=by
 unfold brk;cases f
 ·refine ht.app λc hc=>?_
  simp only[false_eq_true,if_false] at hc
  rcases List.mem_cons.mp hc with z|z
  ·omega
  ·exact Sm.rep m 32 (by omega) c z
 ·exact ht.app (by simpa using hb)
theorem rP:∀(p:Plan) (b b':List Int) (t t':List Nat) (m:Nat) (f:Bool),p.lO->Sm t->lay p b t m f=some (t',b')->Sm t'
 |.text x,b,b',t,t',m,f,hp,ht,h=>by simp only[lay,Option.some.injEq,Prod.mk.injEq] at h;rw[<-h.1];exact ht.app hp
 |.line,b,b',t,t',m,f,hp,ht,h=>by simp only[lay,Option.some.injEq,Prod.mk.injEq] at h;rw[<-h.1];exact Ub _ _ _ _ (by intro c hc;simp at hc;omega) ht
 |.cut,b,b',t,t',m,f,hp,ht,h=>by simp only[lay,Option.some.injEq,Prod.mk.injEq] at h;rw[<-h.1];exact Ub _ _ _ _ (by intro c hc;simp at hc) ht
 |.nest n p,b,b',t,t',m,f,hp,ht,h=>rP p b b' t t' (m+n) f hp ht h
 |.align p,b,b',t,t',m,f,hp,ht,h=>rP p b b' t t' (col t) f hp ht h
 |.flat p,b,b',t,t',m,f,hp,ht,h=>rP p b b' t t' m true hp ht h
 |.beside p q,b,b',t,t',m,f,hp,ht,h=>by
  have h':(lay p b t m f).bind (λr=>lay q r.2 r.1 m f)=some (t',b'):=h;cases e:lay p b t m f with
  |none=>rw[e] at h';cases h'
  |some x=>
   obtain⟨t1,b1⟩:=x;rw[e] at h'
   exact rP q b1 b' t1 t' m f hp.2 (rP p b b1 t t1 m f hp.1 ht e) h'
 |.choice p q,[],b',t,t',m,f,hp,ht,h=>by cases h
 |.choice p q,x::b,b',t,t',m,f,hp,ht,h=>by
  have h':(if x=0 then lay p b t m f else if x=1 then lay q b t m f else none)=some (t',b'):=h
  by_cases c0:x=0
  ·rw[if_pos c0] at h';exact rP p b b' t t' m f hp.1 ht h'
  ·rw[if_neg c0] at h'
   by_cases c1:x=1
   ·rw[if_pos c1] at h';exact rP q b b' t t' m f hp.2 ht h'
   ·rw[if_neg c1] at h';cases h'
theorem xx(n:Nat)(ps:List Plan)(h:∀p∈ps,p.lO):(jn n ps).lO:=yH (R:=Plan.lO) (by intro c hc;cases hc) (λ_ _ a b=>⟨a,b⟩) n ps h
open PySem PySem.Builtin PySem.Builtin.Str
def tx(l:List Nat):Str:=⟨l.toArray⟩
theorem dz(l:List Nat):(tx l).length=l.length:=by simp[tx,Str.length]
theorem j8(l m:List Nat):tx l++tx m=tx (l++m):=by
 show Str.append _ _=_;simp[tx,Str.append]
theorem Uc{l m:List Nat}(h:tx l=tx m):l=m:=by
 have:=congrArg (λs=>s.cps.toList) h
 simpa [tx] using this
theorem xA(x:Str):tx x.cps.toList=x:=by cases x;simp[tx]
theorem oU:(Str.ofString "\n")=tx [10]:=by decide +kernel
theorem xB(l:List Nat)(i:Nat):subAt (tx l) (tx [10]) i=true↔l[i]? = some 10:=by
 unfold subAt;have e:(tx l).cps.extract i (i+(tx [10]).length)=((l.drop i).take 1).toArray:=by
  rw[dz];simp[tx,List.extract_toArray]
 rw[e];show(((l.drop i).take 1).toArray==[10].toArray)=true↔_;rw[beq_iff_eq];constructor
 ·intro h
  have h':(l.drop i).take 1=[10]:=by simpa using congrArg Array.toList h
  have:(l.drop i)[0]? = some 10:=by
   cases q:l.drop i with
   |nil=>rw[q] at h';cases h'
   |cons a r=>rw[q] at h';simp at h';simp[h']
  rw[List.getElem?_drop] at this
  simpa using this
 ·intro h
  have h1:(l.drop i)[0]? = some 10:=by rw[List.getElem?_drop];simpa using h
  cases q:l.drop i with
  |nil=>rw[q] at h1;cases h1
  |cons a r=>rw[q] at h1;simp at h1;simp[h1]
theorem xC(l:List Nat)(h:∀i:Nat,l[i]? ≠ some 10):col l=l.length:=by
 have:=pZ [] l (λc hc e=>by
  obtain⟨i,hi,e'⟩:=List.mem_iff_getElem.mp hc
  exact h i (by rw[getElem?_eq_getElem hi,e',e]))
 simpa [col] using this
theorem xD(l:List Nat)(i:Nat)(h:l[i]? = some 10)(hk:∀k:Nat,i<k->l[k]? ≠ some 10):col l+i+1=l.length:=by
 obtain⟨hi,e⟩:=List.getElem?_eq_some_iff.mp h;have e1:l=(l.take i++[10])++l.drop (i+1):=by
  rw[append_assoc,<-e,singleton_append,<-drop_eq_getElem_cons hi,take_append_drop]
 have Bg:∀c∈l.drop (i+1),c≠10:=λc hc ec=>by
  obtain⟨j,hj,ej⟩:=List.mem_iff_getElem.mp hc;have:l[i+1+j]? = some 10:=by
   have z:(l.drop (i+1))[j]? = some c:=by rw[getElem?_eq_getElem hj,ej]
   rw[List.getElem?_drop] at z
   rw[z,ec]
  exact hk _ (by omega) this
 have h2:col l=col (l.take i++[10])+(l.drop (i+1)).length:=by
  conv=>lhs;rw[e1]
  exact pZ _ _ Bg
 have h3:col (l.take i++[10])=0:=by unfold col;simp
 rw[h2,h3,length_drop];omega
theorem xE(l:List Nat):((tx l).length:Int) - Txt.rfind (tx l) (tx [10]) - 1=(col l:Int):=by
 have FZ:∀i,StrLaws.At (tx l) (tx [10]) (tx l).length i↔l[i]? = some 10:=λi=>by
  unfold StrLaws.At;rw[xB,dz,dz];constructor
  ·exact λh=>h.2
  ·intro h
   have:=(List.getElem?_eq_some_iff.mp h).1;exact⟨by simp;omega,h⟩
 unfold Txt.rfind;rcases StrLaws.last_spec (tx l) (tx [10]) with⟨e,h⟩|⟨i,e,h,hk⟩
 ·rw[e]
  have:=xC l (λi q=>h i ((FZ i).mpr q));rw[dz,this];simp
 ·rw[e]
  have:=xD l i ((FZ i).mp h) (λk hk' q=>hk k hk' ((FZ k).mpr q));rw[dz];simp;omega
theorem Ud(a:Array Nat):∀(n:Nat) (acc:Array Nat),(List.replicate n a).foldl (· ++ ·) acc=acc++(List.replicate n a.toList).flatten.toArray
 |0,acc=>by simp
 |n+1,acc=>by
  rw[replicate_succ,List.foldl_cons,Ud a n,replicate_succ,flatten_cons];rw[Array.append_assoc]
  congr 1
  apply Array.toList_inj.mp;simp
open PySem PySem.Builtin PySem.Builtin.Str
noncomputable def zk2:List Nat->List (List Nat)
 |[]=>[[]]
 |c::t=>if c=10 then[]::zk2 t else match zk2 t with
  |[]=>[[c]]
  |r::rs=>(c::r)::rs
noncomputable def yI:List (List Nat)->List Nat
 |[]=>[]
 |[r]=>r
 |r::s::rs=>r++10::yI (s::rs)
theorem nj(c:Nat)(t:List Nat):zk2 (c::t)=if c=10 then[]::zk2 t else match zk2 t with
  |[]=>[[c]]
  |r::rs=>(c::r)::rs:=rfl
theorem Bh(t:List Nat):zk2 t≠[]:=by
 cases t with
 |nil=>simp[zk2]
 |cons c t=>
  unfold zk2
  split
  ·simp
  ·split<;>simp
theorem Bj:∀r:List Nat,10∉r->zk2 r=[r]
 |[],_=>rfl
 |c::r,h=>by
  have h1:¬c=10:=λz=>h (by rw[z];exact mem_cons_self)
  have h2:=Bj r λz=>h (mem_cons_of_mem _ z)
  rw[nj,if_neg h1,h2]
theorem Ue:∀(r t:List Nat),10∉r->zk2 (r++10::t)=r::zk2 t
 |[],t,_=>by show zk2 (10::t)=_;rw[nj,if_pos rfl]
 |c::r,t,h=>by
  have h1:¬c=10:=λz=>h (by rw[z];exact mem_cons_self)
  have h2:=Ue r t λz=>h (mem_cons_of_mem _ z)
  show zk2 (c::(r++10::t))=_;rw[nj,if_neg h1,h2]
theorem Ug:∀rs:List (List Nat),rs≠[]->(∀r∈rs,10∉r)->zk2 (yI rs)=rs
 |[],h,_=>absurd rfl h
 |[r],_,h=>Bj r (h r (by simp))
 |r::s::rs,_,h=>by
  show zk2 (r++10::yI (s::rs))=_;rw[Ue r _ (h r (by simp)),Ug (s::rs) (by simp) λx hx=>h x (mem_cons_of_mem _ hx)]
theorem Uh:∀rs:List (List Nat),Str.join (tx [10]) (rs.map tx)=tx (yI rs)
 |[]=>rfl
 |[r]=>rfl
 |r::s::rs=>by
  show tx r++tx [10]++Str.join (tx [10]) ((s::rs).map tx)=tx (r++10::yI (s::rs));rw[Uh (s::rs),j8,j8,append_assoc];rfl
theorem Ui(t:List Nat):Txt.split (tx t) (tx [10])=(zk2 t).map tx:=by
 have h1:=StrLaws.join_split (tx t) (tx [10]);have h2:=StrLaws.split_free (tx t) 10;have h3:=split_pos (tx t) (tx [10]);have e0:(⟨#[10]⟩:Str)=tx [10]:=rfl;rw[e0] at h2
 generalize Txt.split (tx t) (tx [10])=ps at h1 h2 h3
 have e1:ps=(ps.map λp=>p.cps.toList).map tx:=by
  rw[map_map]
  conv=>lhs;rw[<-map_id ps]
  refine map_congr_left λp _=>?_
  exact(xA p).symm
 rw[e1] at h1
 rw[Uh] at h1
 have e2:=Uc h1
 rw[<-e2,Ug _ (by intro z;rw[List.map_eq_nil_iff] at z;subst z;simp at h3) (λr hr=>by
  obtain⟨p,hp,rfl⟩:=List.mem_map.mp hr
  exact h2 p hp)]
 exact e1
theorem xF(t:List Nat):Txt.count (tx t) (tx [10])=((zk2 t).length:Int) - 1:=by
 have h:=Ui t;have hl:=congrArg List.length h;rw[length_map] at hl
 rw[<-hl];have kk:Builtin.Str.strKind (tx [10])=1:=by decide +kernel
 unfold Txt.split Txt.count
 by_cases c1:(decide ((tx t).length<(tx [10]).length)||decide (Builtin.Str.strKind (tx t)<Builtin.Str.strKind (tx [10])))=true
 ·rw[if_pos c1]
  have hlt:(tx t).length<1:=by
   rw[Bool.or_eq_true] at c1
   rcases c1 with z|z
   ·have:=of_decide_eq_true z
    rw[dz [10]] at this;simpa using this
   ·have:=of_decide_eq_true z
    rw[kk] at this
    have h1:1<=Builtin.Str.strKind (tx t):=by
     unfold Builtin.Str.strKind
     split
     ·exact le_refl _
     ·split<;>decide
    omega
  rw[dz] at hlt
  have e:t=[]:=List.eq_nil_of_length_eq_zero (by omega);subst e;have:occurrences (tx []) (tx [10]) 0 (tx []).length ((tx []).length+1)=[]:=by decide +kernel
  rw[this];rfl
 ·rw[if_neg c1]
  by_cases c2:(occurrences (tx t) (tx [10]) 0 (tx t).length ((tx t).length+1)).isEmpty=true
  ·rw[if_pos c2]
   rw[List.isEmpty_iff] at c2
   rw[c2];rfl
  ·rw[if_neg c2,length_partsBetween]
   omega
theorem G0:∀(t r:List Nat),10∉r->∃us u,zk2 t=us++[u]/\zk2 (t++r)=us++[u++r]
 |[],r,h=>⟨[],[],rfl,by rw[List.nil_append,Bj r h];rfl⟩
 |c::t,r,h=>by
  obtain⟨us,u,e1,e2⟩:=G0 t r h
  by_cases hc:c=10
  ·refine⟨[]::us,u,?_,?_⟩
   ·rw[nj,if_pos hc,e1];rfl
   ·show zk2 (c::(t++r))=_
    rw[nj,if_pos hc,e2];rfl
  ·cases us with
   |nil=>
    refine⟨[],c::u,?_,?_⟩
    ·rw[nj,if_neg hc,e1];rfl
    ·show zk2 (c::(t++r))=_
     rw[nj,if_neg hc,e2];rfl
   |cons v us=>
    refine⟨(c::v)::us,u,?_,?_⟩
    ·rw[nj,if_neg hc,e1];rfl
    ·show zk2 (c::(t++r))=_
     rw[nj,if_neg hc,e2];rfl
theorem G4:∀t:List Nat,((zk2 t).map (·.length)).sum+(zk2 t).length=t.length+1
 |[]=>rfl
 |c::t=>by
  have ih:=G4 t;have hne:=Bh t;unfold zk2
  split
  ·simp only[map_cons,sum_cons,length_cons,length_nil];omega
  ·cases e:zk2 t with
   |nil=>exact absurd e hne
   |cons r rs=>
    rw[e] at ih
    simp only[map_cons,sum_cons,length_cons] at ih ⊢;omega
theorem Uj:∀(l:List Nat) (x:Nat),x∈l->x<=l.sum
 |y::l,x,h=>by
  rw[sum_cons];rcases List.mem_cons.mp h with z|z
  ·omega
  ·have:=Uj l x z;omega
theorem xI(t r:List Nat)(h:r∈zk2 t):r.length<=t.length:=by
 have h1:=G4 t;have h2:=Uj ((zk2 t).map (·.length)) r.length (List.mem_map.mpr ⟨r,h,rfl⟩);have h3:1<=(zk2 t).length:=by
  cases e:zk2 t with
  |nil=>exact absurd e (Bh t)
  |cons _ _=>simp
 omega
theorem Uk(t:List Nat):(zk2 t).length<=t.length+1:=by
 have h1:=G4 t;omega
def zn4(wd:Int)(r:List Nat):Int:=if(r.length:Int) - wd > 0 then(r.length:Int) - wd else 0
def zn2(t:List Nat)(wd:Int):Int:=((zk2 t).map (zn4 wd)).sum
open PySem PySem.Builtin PySem.Builtin.Str
open PySem L2
theorem cG{c A B:Prop}[Decidable c](hc:c)(h:A):if c then A else B:=by rw[if_pos hc];exact h
theorem aP{c A B:Prop}[Decidable c](hc:¬c)(h:B):if c then A else B:=by rw[if_neg hc];exact h
theorem ao {p:Addr}(h:H p=none)(o:HO):Same H (upd H p o):=λb u q=>by rw[aJ (c6 q h)];exact q
theorem d4 (h:n<=16777216):n<=sizeLine:=by have e:sizeLine=16777216:=sizeLine_eq;omega
theorem Ul{ns:List Int}{i:Int}(h0:0<=i)(h1:i<(ns.length:Int)):dN (ns.map V.int) i=some (.int (ns.getD i.toNat 0)):=by
 have hk:i.toNat<ns.length:=by omega
 have e:i=((i.toNat:Nat):Int):=by omega
 rw[e];have q:(ns.map V.int)[i.toNat]? = some (.int (ns.getD i.toNat 0)):=by
  rw[getElem?_map,getElem?_eq_getElem hk,getD_eq_getElem?_getD,getElem?_eq_getElem hk]<;>rfl
 exact gF q
def aZ(H:Hp):Plan->Addr->Prop
 |.text t,r=>H r=some (.tup [.str "text",.str (tx t)])
 |.line,r=>H r=some (.tup [.str "line"])
 |.cut,r=>H r=some (.tup [.str "cut"])
 |.nest n p,r=>∃a,H r=some (.tup [.str "nest",.int n,.ref a])/\aZ H p a
 |.align p,r=>∃a,H r=some (.tup [.str "align",.ref a])/\aZ H p a
 |.flat p,r=>∃a,H r=some (.tup [.str "flat",.ref a])/\aZ H p a
 |.beside p q,r=>∃a b,H r=some (.tup [.str "beside",.ref a,.ref b])/\aZ H p a/\aZ H q b
 |.choice p q,r=>∃a b,H r=some (.tup [.str "choice",.ref a,.ref b])/\aZ H p a/\aZ H q b
def bQ(H H':Hp):Prop:=∀b xs,H b=some (.tup xs)->H' b=some (.tup xs)
theorem bQ.of (h:Same H H'):bQ H H':=λb xs e=>h b _ e
theorem bQ.trans (a:bQ H H1)(b:bQ H1 H2):bQ H H2:=λc xs e=>b c xs (a c xs e)
theorem aZ.mono{H H':Hp}(h:bQ H H'):∀ {p:Plan} {r:Addr},aZ H p r->aZ H' p r
 |.text _,_,e=>h _ _ e
 |.line,_,e=>h _ _ e
 |.cut,_,e=>h _ _ e
 |.nest _ _,_,⟨a,e,q⟩=>⟨a,h _ _ e,aZ.mono h q⟩
 |.align _,_,⟨a,e,q⟩=>⟨a,h _ _ e,aZ.mono h q⟩
 |.flat _,_,⟨a,e,q⟩=>⟨a,h _ _ e,aZ.mono h q⟩
 |.beside _ _,_,⟨a,b,e,q,q'⟩=>⟨a,b,h _ _ e,aZ.mono h q,aZ.mono h q'⟩
 |.choice _ _,_,⟨a,b,e,q,q'⟩=>⟨a,b,h _ _ e,aZ.mono h q,aZ.mono h q'⟩
inductive G5(K:Frag)(vs:List V)(H:Hp)(Q:VK)(E':XK):Prop
 |mk (a:Addr) (ns:List Int) (k:Int) (z0:vs=[.ref a,.int k]) (z1:aG K H a (ns.map V.int)) (z2:ns.length<=63) (z3:Q (.int (cell ns k)) H):G5 K vs H Q E'
inductive yJ(K:Frag)(vs:List V)(H:Hp)(Q:VK)(E':XK):Prop
 |mk (a:Addr) (ns:List Int) (k:Int) (z0:vs=[.ref a,.int k]) (z1:aG K H a (ns.map V.int)) (z2:ns.length<=63) (z3:Q (.int (mix ns k)) H):yJ K vs H Q E'
theorem rQ     {CX:jt}   {ps:List Str}{sp:Sp}(no:∀vs H Q E,¬sp vs H Q E):aH P w K mg base CX k f fd ps sp:=
 ⟨λvs H Q E h=>absurd h (no vs H Q E),λA outer s H args us vs Q E _ _ _ _ h=>absurd h (no vs H Q E)⟩
theorem mul_one(c:Nat)(n:Int)(h:0<=n):Txt.mul (tx [c]) n=tx (List.replicate n.toNat c):=by
 unfold Txt.mul;have hl:(tx [c]).length=1:=dz [c]
 by_cases h1:n<1
 ·rw[if_pos h1]
  have:n.toNat=0:=by omega
  rw[this];rfl
 ·rw[if_neg h1]
  by_cases h2:n=1
  ·subst h2
   rw[if_pos (by simp)];rfl
  ·rw[if_neg (by rw[hl];simp;omega),Ud]
   show(⟨_⟩:Str)=⟨_⟩
   congr 1
   show #[]++(List.replicate n.toNat [c]).flatten.toArray=_;have e:∀m:Nat,(List.replicate m [c]).flatten=List.replicate m c:=λm=>by
    induction m with
    |zero=>rfl
    |succ m ih=>rw[replicate_succ,flatten_cons,ih];rfl
   rw[e];simp
theorem yK {i:Int}{v:V}(h0:0<=i)(h:xs[i.toNat]? = some v):dN xs i=some v:=by
 have e:i=((i.toNat:Nat):Int):=by omega
 rw[e];exact gF h
theorem xL(v:V)(vs:List V):iT (v::vs) (some 1) none=vs:=by
 unfold iT;have e1:HT.cT (v::vs).length 0 (some 1)=1:=by
  have h:=HT.Ez (v::vs).length 0 1;have h2:min 1 (v::vs).length=1:=by simp
  rw[h2] at h
  exact h
 rw[e1,HT.Ew];simp
theorem qe:(Str.ofString " ")=tx [32]:=by decide +kernel
theorem qg:(Str.ofString "")=tx []:=by decide +kernel
structure MO(P:Program)(w:World)(K:Frag)(mg:eV)(base:Heap)(C:Addr)(CX:jt)(k:Nat)(f:Addr)(fd:FuncData)(m:Str)(ps:List Str)(sp:Sp):Prop where
 ok:aH P w K mg base CX k f fd ps sp
 b:Binds K fd ps []
 m:Meth K C m f
abbrev Rows(H:Hp):List Addr->List (List Int)->Prop:=Paired λa row=>H a=some (.lst (row.map V.int))
theorem Rows.mono (h:Same H H') {rows:List (List Int)}(r:Rows H as rows):Rows H' as rows:=Paired.gJ r λ_ _ e=>h _ _ e
theorem Rows.get{H:Hp}:∀ {as:List Addr} {rows:List (List Int)} {i:Nat} {v:V},Rows H as rows->(as.map V.ref)[i]? = some v->∃a row,v=.ref a/\rows[i]? = some row/\H a=some (.lst (row.map V.int))
 |_,_,_,_,.nil,e=>by simp at e
 |_,_,0,_,.cons r _,e=>by simp at e;subst e;exact⟨_,_,rfl,rfl,r⟩
 |_,_,i+1,v,.cons _ t,e=>by
  obtain⟨a,row,h1,h2,h3⟩:=Rows.get (i:=i) (v:=v) t (by simpa using e);exact⟨a,row,h1,by simpa using h2,h3⟩
theorem Rows.append{H:Hp}:∀ {as bs:List Addr} {xs ys:List (List Int)},Rows H as xs->Rows H bs ys->Rows H (as++bs) (xs++ys)
 |_,_,_,_,.nil,s=>s
 |_,_,_,_,.cons r t,s=>.cons r (Rows.append t s)
def zg8(H:Hp)(rr:Addr)(rows:List (List Int)):Prop:=∃as:List Addr,H rr=some (.lst (as.map V.ref))/\Rows H as rows
theorem k6  (h:Same H H')(n:H D=none)(o:HO):Same H (upd H' D o):=λb u e=>by rw[aJ (c6 e n)];exact h b u e
theorem zk3{α:Type}{l:List α} {x:α}(h:l[i]? = some x):l.take (i+1)=l.take i++[x]:=by
 rw[List.take_add_one,h];rfl
structure jN(H1:Hp)(D:Addr)(rows:List (List Int))(H:Hp)(ys:List V):Prop where
 same:Same H1 H
 at_:H D=some (.lst ys)
 bs:∃bs:List Addr,ys=bs.map V.ref/\Rows H bs rows/\∀b∈bs,b≠D/\H1 b=none
theorem jN.start  (n:H1 D=none):jN H1 D [] (upd H1 D (.lst [])) []:=⟨ao n _,a8,[],rfl,.nil,λ_ h=>nomatch h⟩
theorem lQ{α β:Type}{R:α->β->Prop}{as:List α}{bs:List β}(h:Paired R as bs):as.length=bs.length:=Paired.length h
theorem jN.len  {rows:List (List Int)} (g:jN H1 D rows H ys):ys.length=rows.length:=by
 obtain⟨bs,rfl,r,_⟩:=g.bs;rw[length_map,lQ r]
theorem Rows.upd{H:Hp}{D:Addr}{o:HO}:∀ {bs:List Addr} {rows:List (List Int)},Rows H bs rows->(∀b∈bs,b≠D)->Rows (L2.upd H D o) bs rows
 |_,_,.nil,_=>.nil
 |_,_,.cons q t,nb=>.cons (by rw[aJ (nb _ mem_cons_self)];exact q) (Rows.upd t λb hb=>nb b (mem_cons_of_mem _ hb))
theorem jN.more{H5:Hp}{p:Addr}{rows:List (List Int)} {row:List Int}(g:jN H1 D rows H ys)(n:H1 D=none)(s:Same H H5)(e:H5 p=some (.lst (row.map V.int)))(np:p≠D)(nf:H1 p=none):
  jN H1 D (rows++[row]) (L2.upd H5 D (.lst (ys++[.ref p]))) (ys++[.ref p]):=by
 obtain⟨bs,rfl,r,nb⟩:=g.bs;refine⟨k6 (g.same.trans s) n _,a8,bs++[p],by rw[map_append];rfl,?_,λb hb=>?_⟩
 ·exact Rows.append ((r.mono s).upd λb hb=>(nb b hb).1) (.cons (by rw[aJ np];exact e) .nil)
 ·rcases List.mem_append.mp hb with z|z
  ·exact nb b z
  ·rw[List.mem_singleton.mp z];exact⟨np,nf⟩
theorem jN.ext{H5:Hp} {rows more:List (List Int)} {cs:List Addr}(g:jN H1 D rows H ys)(n:H1 D=none)(s:Same H H5)(e:Rows H5 cs more)(nc:∀b∈cs,b≠D/\H1 b=none):
  jN H1 D (rows++more) (L2.upd H5 D (.lst (ys++cs.map V.ref))) (ys++cs.map V.ref):=by
 obtain⟨bs,rfl,r,nb⟩:=g.bs;refine⟨k6 (g.same.trans s) n _,a8,bs++cs,by rw[map_append],?_,λb hb=>?_⟩
 ·exact Rows.append ((r.mono s).upd λb hb=>(nb b hb).1) (e.upd λb hb=>(nc b hb).1)
 ·rcases List.mem_append.mp hb with z|z
  ·exact nb b z
  ·exact nc b z
theorem Um  {a : Addr} {τ : St}  {Q : Hp -> Prop} (c : Int) {rows : List (List Int)}  (ha : H1 a = some (.lst (as.map V.ref))) (hr : Rows H1 as rows) (hz : rows.length <= 1000000) (hw : ∀ row ∈ rows, row.length <= 1000000) (hD : H1 D = none)
    (k : ∀ (bs : List Addr) (H' : Hp), Same H1 H' -> H' D = some (.lst (bs.map V.ref)) -> Rows H' bs (rows.map (c :: ·)) -> (∀ b ∈ bs, b ≠ D /\ H1 b = none) -> Q H') :
    ∃ W : Nat -> Nat -> Hp -> List V -> Prop, (∃ m, W 0 m (upd H1 D (.lst [])) []) /\ ∀ i m H' ys, W i m H' ys ->
      ((j3 K a).stop i H' /\ Q H') \/ ((j3 K a).go i H' /\ ∃ N : Hp -> List V -> Prop, (∀ H' ys', N H' ys' -> ∃ m', m' < m /\ W (i + 1) m' H' ys') /\ ∀ x H2, (j3 K a).jC i H' x H2 -> ur (some x :: τ) H2 λb H4 =>
        if b = true then qU F6 (Er (iz (tC (.int c)) oK)) (jB 0) (some x :: τ) H4 λy H5 => H5 D = some (.lst ys) /\ ys.length < sizeLine /\ N (upd H5 D (.lst (ys ++ [y]))) (ys ++ [y])
        else N H4 ys) := by
  have hlen : (as.map V.ref).length = rows.length := by rw [length_map, lQ hr]
  refine Fg (xs := as.map V.ref) (λi H ys => jN H1 D ((rows.take i).map (c :: ·)) H ys) (jN.start hD) (λi H ys _ g => aG.of (g.same _ _ ha)) (λi x H ys hx g => ?_) (λH ys g => ?_)
  · obtain ⟨ax, row, rfl, hrow, ex⟩ := hr.get hx
    have hi : i < rows.length := (List.getElem?_eq_some_iff.mp hrow).1;have hm : row ∈ rows := mem_of_getElem? hrow;refine ⟨aC, λl hl => ⟨_, rfl, l, ax, _, _, rfl, rfl, a8, (ao hl _) _ _ (g.same _ _ ex), d4 (by rw [length_map]; have := hw row hm; show 1 + _ <= _; omega), λp hp => ?_⟩⟩;have s5 : Same H (upd (upd H l (.lst [.int c])) p (.lst ([V.int c] ++ row.map V.int))) := (ao hl _).trans (ao hp _);refine ⟨s5 _ _ g.at_, lt_of_lt_of_le (show ys.length < 1000001 by rw [g.len, length_map, length_take]; omega) (d4 (by omega)), ?_⟩;have e : (rows.take (i + 1)).map (c :: ·) = (rows.take i).map (c :: ·) ++ [c :: row] := by rw [zk3 hrow, map_append]; rfl
    rw [e];exact g.more hD s5 a8 (λz => by rw [z, (ao hl _) _ _ g.at_] at hp; cases hp) ((g.same.trans (ao hl _)).free hp)
  · rw [hlen, take_length] at g
    obtain ⟨bs, e, r, nb⟩ := g.bs;exact k bs H g.same (by rw [<- e]; exact g.at_) r nb
theorem xN  {a b : Addr}  {Q : Hp -> Prop} {first : List Int} {rows : List (List Int)}  (ha : H1 a = some (.lst (as.map V.ref))) (hb : H1 b = some (.lst (first.map V.int))) (hr : Rows H1 as rows) (hz : rows.length <= 1000000)
    (hf : first.length <= 1000000) (hw : ∀ row ∈ rows, row.length <= 1000000) (hD : H1 D = none)
    (k : ∀ (bs : List Addr) (H' : Hp), Same H1 H' -> H' D = some (.lst (bs.map V.ref)) -> Rows H' bs (rows.map (first ++ ·)) -> (∀ b ∈ bs, b ≠ D /\ H1 b = none) -> Q H') :
    ∃ W : Nat -> Nat -> Hp -> List V -> Prop, (∃ m, W 0 m (upd H1 D (.lst [])) []) /\ ∀ i m H' ys, W i m H' ys ->
      ((j3 K a).stop i H' /\ Q H') \/ ((j3 K a).go i H' /\ ∃ N : Hp -> List V -> Prop, (∀ H' ys', N H' ys' -> ∃ m', m' < m /\ W (i + 1) m' H' ys') /\ ∀ x H2, (j3 K a).jC i H' x H2 -> ur (some x :: [some (.ref b)]) H2 λb' H4 =>
        if b' = true then qU F6 (jB 1) (jB 0) (some x :: [some (.ref b)]) H4 λy H5 => H5 D = some (.lst ys) /\ ys.length < sizeLine /\ N (upd H5 D (.lst (ys ++ [y]))) (ys ++ [y])
        else N H4 ys) := by
  have hlen : (as.map V.ref).length = rows.length := by rw [length_map, lQ hr]
  refine Fg (xs := as.map V.ref) (λi H ys => jN H1 D ((rows.take i).map (first ++ ·)) H ys) (jN.start hD) (λi H ys _ g => aG.of (g.same _ _ ha)) (λi x H ys hx g => ?_) (λH ys g => ?_)
  · obtain ⟨ax, row, rfl, hrow, ex⟩ := hr.get hx
    have hi : i < rows.length := (List.getElem?_eq_some_iff.mp hrow).1;have hm : row ∈ rows := mem_of_getElem? hrow;refine ⟨_, rfl, _, rfl, b, ax, _, _, rfl, rfl, g.same _ _ hb, g.same _ _ ex, d4 (by rw [length_map, length_map]; have := hw row hm; omega), λp hp => ?_⟩;have s5 : Same H (upd H p (.lst (first.map V.int ++ row.map V.int))) := ao hp _;refine ⟨s5 _ _ g.at_, lt_of_lt_of_le (show ys.length < 1000001 by rw [g.len, length_map, length_take]; omega) (d4 (by omega)), ?_⟩;have e : (rows.take (i + 1)).map (first ++ ·) = (rows.take i).map (first ++ ·) ++ [first ++ row] := by rw [zk3 hrow, map_append]; rfl
    rw [e];exact g.more hD s5 (by rw [a8, map_append]) (λz => by rw [z, g.at_] at hp; cases hp) (g.same.free hp)
  · rw [hlen, take_length] at g
    obtain ⟨bs, e, r, nb⟩ := g.bs;exact k bs H g.same (by rw [<- e]; exact g.at_) r nb
noncomputable def del(H:Hp)(D:Addr):Hp:=λb=>if b=D then none else H b
theorem Uo  : del H D D=none:=by unfold del;rw[if_pos rfl]
theorem uG {b:Addr}(h:b≠D):del H D b=H b:=by unfold del;rw[if_neg h]
theorem xS  : Same (del H D) H:=λb o e=>by
 by_cases h:b=D
 ·rw[h,Uo] at e;cases e
 ·rw[uG h] at e;exact e
def ya(H H':Hp)(rr:Addr)(rows:List (List Int)):Prop:=∃as:List Addr,H' rr=some (.lst (as.map V.ref))/\Rows H' as rows/\H rr=none/\∀a∈as,H a=none
def yL:Nat->Sp
 |0=>λ_ _ _ _=>False
 |n+1=>λvs H Q _=>∃(r:Addr) (p:Plan),vs=[.ref r]/\aZ H p r/\p.deep<=n/\p.sides.length<=100000/\p.size<=100000/\∀(rr:Addr) (H':Hp),Same H H'->ya H H' rr p.sides->Q (.ref rr) H'
theorem Bk{X:Cx}{scope:Scope}{x:Str}(hn:∀y∈scope.names,y.2≠.free/\y.2≠.cell)(hk:scope.kind=.function)(hx:scope.names.lookup x=some .local)(hl:∀y∈scope.names,y.2=.local->scope.names.lookup y.1=some .local):
  vK X scope [] x [] []:=by
 refine⟨closureFor_none λy hy=>(hn y hy).1,(λ_ _ h=>nomatch h),λy hy=>(hn y hy).2,hk,hl,hx,(by simp),λy h=>?_,rfl,λk j h=>(by cases h)⟩;have e:(relabel scope X.env).names=scope.names:=by
  show scope.names.map _=scope.names;refine map_eq_self λy hy=>?_
  obtain⟨n,k⟩:=y;have h1:(k==NameKind.free)=false:=beq_eq_false_iff_ne.mpr (hn _ hy).1;simp[h1]
 rw[e] at h
 rcases h with h|h
 ·exact absurd rfl (hn _ (PySem.mem_of_lookup h)).2
 ·exact absurd rfl (hn _ (PySem.mem_of_lookup h)).1
theorem iU{α β:Type}{R:α->β->Prop}:∀ {as bs:List α} {xs ys:List β},Paired R as xs->Paired R bs ys->Paired R (as++bs) (xs++ys)
 |_,_,_,_,.nil,s=>s
 |_,_,_,_,.cons r t,s=>.cons r (iU t s)
theorem rR{α β:Type}{R:α->β->Prop}{y:β}:∀ {ys:List β} {xs:List α},Paired R xs (ys++[y])->∃zs x,xs=zs++[x]/\Paired R zs ys/\R x y
 |[],_,h=>by
  cases h with
  |cons r t=>cases t;exact⟨[],_,rfl,.nil,r⟩
 |_::ys,_,h=>by
  cases h with
  |cons r t=>
   obtain⟨zs,x,e,q,rx⟩:=rR (ys:=ys) t;exact⟨_::zs,x,by rw[e];rfl,.cons r q,rx⟩
theorem dX   {o:HO}(h:H D=some (.lst xs)):bQ H (upd H D o):=λb ys e=>by rw[aJ (cR e h (by intro z;cases z))];exact e
end Pq
namespace L2
open PySem PySem.Spec PyProof.Rows
section
variable {κ:Type}[DecidableEq κ]
noncomputable def gO(kvs:List (κ×V))(k:κ):Option V:=(kvs.find? λkv=>decide (kv.1=k)).map (·.2)
noncomputable def zl8(kvs:List (κ×V))(k:κ)(v:V):List (κ×V):=
 if(kvs.any λkv=>decide (kv.1=k))=true then kvs.map (λkv=>if kv.1=k then(kv.1,v) else kv) else kvs++[(k,v)]
def zg9(kvs:List (κ×V))(k:κ):List (κ×V):=kvs.filter λkv=>decide (kv.1≠k)
theorem yM{p:κ×V}{r:List (κ×V)}{k:κ}(e:p.1=k):gO (p::r) k=some p.2:=by simp[gO,find?_cons,e]
theorem uH{p:κ×V}{r:List (κ×V)}{k:κ}(e:¬p.1=k):gO (p::r) k=gO r k:=by simp[gO,find?_cons,e]
theorem G6(k:κ):∀kvs:List (κ×V),(kvs.any λkv=>decide (kv.1=k))=(gO kvs k).isSome
 |[]=>rfl
 |p::r=>by
  rw[any_cons]
  by_cases e:p.1=k
  ·simp only[yM e,decide_eq_true e,Bool.true_or,Option.isSome_some]
  ·rw[uH e,decide_eq_false e,Bool.false_or];exact G6 k r
theorem G7(kvs:List (κ×V))(k:κ)(v:V):(zl8 kvs k v).length<=kvs.length+1:=by
 unfold zl8
 split
 ·rw[length_map];omega
 ·rw[length_append,length_cons,length_nil];omega
theorem Uq{kvs:List (κ×V)}{k:κ}(v:V)(h:gO kvs k=none):zl8 kvs k v=kvs++[(k,v)]:=by
 unfold zl8;rw[G6,h];exact if_neg (by decide)
theorem jr.yN{o:Option V}{u:Option Value}(r:jr o u):o.isSome=u.isSome:=by
 cases o with
 |none=>cases u with
  |none=>rfl
  |some _=>exact(show False from r).elim
 |some _=>cases u with
  |none=>exact(show False from r).elim
  |some _=>rfl
theorem KV.val{kvs:List (κ×V)}{vs:List (κ×Value)}(r:KV kvs vs)(k:κ):jr (gO kvs k) (valueAt vs k):=by
 unfold KV at r
 induction r with
 |nil=>exact True.intro
 |@cons p q ps qs h t ih=>
  obtain⟨h1,h2⟩:=h
  by_cases e:p.1=k
  ·have e':q.1=k:=h1.symm.trans e
   have b:valueAt (q::qs) k=some q.2:=by simp[valueAt,find?_cons,e']
   rw[yM e,b];exact h2
  ·have e':¬q.1=k:=λz=>e (h1.trans z)
   have b:valueAt (q::qs) k=valueAt qs k:=by simp[valueAt,find?_cons,e']
   rw[uH e,b];exact ih
theorem KV.any{kvs:List (κ×V)}{vs:List (κ×Value)}(r:KV kvs vs)(k:κ):(kvs.any λkv=>decide (kv.1=k))=vs.any λkv=>decide (kv.1=k):=by
 unfold KV at r
 induction r with
 |nil=>rfl
 |cons h t ih=>rw[any_cons,any_cons,ih,h.1]
theorem KV.repl{kvs:List (κ×V)}{vs:List (κ×Value)}(r:KV kvs vs)(k:κ){y:V}{u:Value}(ry:RelV y u):
  KV (kvs.map λkv=>if kv.1=k then(kv.1,y) else kv) (vs.map λkv=>if kv.1=k then(kv.1,u) else kv):=by
 unfold KV at r ⊢
 induction r with
 |nil=>exact .nil
 |@cons p q ps qs h t ih=>
  rw[map_cons,map_cons];refine .cons ?_ ih;obtain⟨h1,h2⟩:=h
  by_cases e:p.1=k
  ·rw[if_pos e,if_pos (h1.symm.trans e)];exact⟨h1,ry⟩
  ·rw[if_neg e,if_neg (λz=>e (h1.trans z))];exact⟨h1,h2⟩
theorem KV.put{kvs:List (κ×V)}{vs:List (κ×Value)}(r:KV kvs vs)(k:κ){y:V}{u:Value}(ry:RelV y u):KV (zl8 kvs k y) (stored vs k u):=by
 unfold zl8 stored;rw[r.any k]
 by_cases e:(vs.any λkv=>decide (kv.1=k))=true
 ·rw[if_pos e,if_pos e];exact r.repl k ry
 ·rw[if_neg e,if_neg e];exact Paired.snoc r ⟨rfl,ry⟩
theorem KV.length{kvs:List (κ×V)}{vs:List (κ×Value)}(r:KV kvs vs):kvs.length=vs.length:=Paired.length r
end
theorem vW{P:Program}{w:World}{k:Key}{u:Value}(r:RelV (kV k) u):(eG P w).is k u=true:=by
 cases k with
 |inl i=>obtain⟨t,e⟩:=(show ∃t,u=Value.int i t from r);subst e;exact dA P w i t
 |inr x=>obtain⟨t,e⟩:=(show ∃t,u=Value.str x t from r);subst e;exact xT P w x t
theorem Ur{P:Program}{w:World}:∀ {ks:List Key} {us:List Value},Vals (ks.map kV) us->ItemsAre (eG P w) ks us
 |[],_,r=>by rw[map_nil] at r;cases r;exact .nil
 |k::ks,_,r=>by
  rw[map_cons] at r
  cases r with
  |cons h t=>exact .cons (vW h) (Ur t)
abbrev KT(H:Hp):List (List Key×V)->List (List Key×Addr×Value)->Prop:=Paired λp q=>p.1=q.1/\H q.2.1=some (.tup (p.1.map kV))/\RelV p.2 q.2.2
theorem KT.val{H:Hp}{kvs:List (List Key×V)}{xs:List (List Key×Addr×Value)}(r:KT H kvs xs)(k:List Key):jr (gO kvs k) ((atKey xs k).map (·.2)):=by
 induction r with
 |nil=>exact True.intro
 |@cons p q ps qs h t ih=>
  obtain⟨h1,_,h2⟩:=h
  by_cases e:p.1=k
  ·have e':q.1=k:=h1.symm.trans e
   have b:atKey (q::qs) k=some q.2:=by simp[atKey,find?_cons,e']
   rw[yM e,b];exact h2
  ·have e':¬q.1=k:=λz=>e (h1.trans z)
   have b:atKey (q::qs) k=atKey qs k:=by simp[atKey,find?_cons,e']
   rw[uH e,b];exact ih
theorem KT.repl{H:Hp}{kvs:List (List Key×V)}{xs:List (List Key×Addr×Value)}(r:KT H kvs xs)(k:List Key){y:V}{u:Value}(ry:RelV y u):
  KT H (kvs.map λkv=>if kv.1=k then(kv.1,y) else kv) (xs.map (putAt k u)):=by
 induction r with
 |nil=>exact .nil
 |@cons p q ps qs h t ih=>
  rw[map_cons,map_cons];refine .cons ?_ ih;obtain⟨h1,h2,h3⟩:=h;unfold putAt
  by_cases e:p.1=k
  ·rw[if_pos e,if_pos (h1.symm.trans e)];exact⟨h1,h2,ry⟩
  ·rw[if_neg e,if_neg (λz=>e (h1.trans z))];exact⟨h1,h2,h3⟩
theorem KT.put{H:Hp}{kvs:List (List Key×V)}{xs:List (List Key×Addr×Value)}(r:KT H kvs xs)(k:List Key){b:Addr}{y:V}{u:Value}(hb:H b=some (.tup (k.map kV)))(ry:RelV y u):
  KT H (zl8 kvs k y) (storedH xs k b u):=by
 have e:(kvs.any λkv=>decide (kv.1=k))=(atKey xs k).isSome:=by
  rw[G6,(r.val k).yN,Option.isSome_map]
 unfold zl8 storedH;rw[e]
 by_cases q:(atKey xs k).isSome=true
 ·rw[if_pos q,if_pos q];exact r.repl k ry
 ·rw[if_neg q,if_neg q];exact Paired.snoc r ⟨rfl,hb,ry⟩
theorem KT.keeps{H H':Hp}{kvs:List (List Key×V)}{xs:List (List Key×Addr×Value)}(r:KT H kvs xs)(ht:∀b ys,H b=some (.tup ys)->H' b=some (.tup ys)):KT H' kvs xs:=
 Paired.gJ r λ_ _ z=>⟨z.1,ht _ _ z.2.1,z.2.2⟩
section
variable {P:Program}{w:World}{H:Hp}{h:Heap}{a:Addr}
theorem Us{u:HO}(ok:eX P w H h)(e:Rd H a u):gB P w H h a u:=e.ok ok
theorem oV{kvs:List (Key×V)}(ok:eX P w H h)(e:Rd H a (.dK kvs)):kvs.length<=sizeLine/\(a==sysModules)=false/\∃vs,KV kvs vs/\h.DictOf (eG P w) a vs:=
 show gB P w H h a (.dK kvs) from Us ok e
theorem G8{kvs:List (Key×V)}(ok:eX P w H h)(e:H a=some (.dK kvs)):kvs.length<=sizeLine/\(a==sysModules)=false/\∃vs,KV kvs vs/\h.DictOf (eG P w) a vs:=oV ok (.inl e)
theorem yO{ks:List Key}(ok:eX P w H h)(e:H a=some (.tup (ks.map kV))):(tupleKind (eG P w)).is h ks a:=by
 obtain⟨_,its,r,o,h1,h2,n,h3⟩:=(show gB P w H h a (.tup (ks.map kV)) from ok a _ e);exact⟨o,its.toArray,n,h1,h2,h3,by simpa using Ur r⟩
theorem yP{kvs:List (List Key×V)}(ok:eX P w H h)(e:Rd H a (.dT kvs)):kvs.length<=sizeLine/\(a==sysModules)=false/\
  ∃xs,KT H kvs xs/\h.DictOfH (tupleKind (eG P w)) a xs:=by
 obtain⟨z,y,xs,r,o,es,ep,h1,h2,h3,h4,h5⟩:=(show gB P w H h a (.dT kvs) from Us ok e);refine⟨z,y,xs,r,o,es,ep,h1,h2,h3,h4,λx hx=>?_,h5⟩;have all:∀ {l:List (List Key×V)} {m:List (List Key×Addr×Value)},KT H l m->∀x∈m,(tupleKind (eG P w)).is h x.1 x.2.1:=by
  intro l m q
  induction q with
  |nil=>intro x hx;exact nomatch hx
  |@cons p q ps qs hq t ih=>
   intro x hx;rcases List.mem_cons.mp hx with e|hx
   ·subst e
    exact yO ok (by rw[<-hq.1];exact hq.2.1)
   ·exact ih x hx
 exact all r x hx
theorem yb{kvs:List (List Key×V)}(ok:eX P w H h)(e:H a=some (.dT kvs)):kvs.length<=sizeLine/\(a==sysModules)=false/\
  ∃xs,KT H kvs xs/\h.DictOfH (tupleKind (eG P w)) a xs:=yP ok (.inl e)
end
def iG(H:Hp)(a:Addr)(y:V)(r:Option V):Prop:=
 (∃kvs k,Rd H a (.dK kvs)/\y=kV k/\r=gO kvs k)\/∃kvs k b,Rd H a (.dT kvs)/\y=.ref b/\H b=some (.tup (k.map kV))/\r=gO kvs k
def nq(H:Hp)(a:Addr)(y v:V)(H':Hp):Prop:=
 (∃kvs k,H a=some (.dK kvs)/\y=kV k/\kvs.length<sizeLine/\H'=upd H a (.dK (zl8 kvs k v)))\/
 ∃kvs k b,H a=some (.dT kvs)/\y=.ref b/\H b=some (.tup (k.map kV))/\kvs.length<sizeLine/\H'=upd H a (.dT (zl8 kvs k v))
theorem iG.k{H:Hp}{a:Addr}{kvs:List (Key×V)}{k:Key}(e:H a=some (.dK kvs)):iG H a (kV k) (gO kvs k):=.inl ⟨kvs,k,.inl e,rfl,rfl⟩
theorem iG.t{H:Hp}{a b:Addr}{kvs:List (List Key×V)}{k:List Key}(e:H a=some (.dT kvs))(eb:H b=some (.tup (k.map kV))):iG H a (.ref b) (gO kvs k):=.inr ⟨kvs,k,b,.inl e,rfl,eb,rfl⟩
theorem nq.k{H:Hp}{a:Addr}{kvs:List (Key×V)}{k:Key}{v:V}(e:H a=some (.dK kvs))(hl:kvs.length<sizeLine):nq H a (kV k) v (upd H a (.dK (zl8 kvs k v))):=.inl ⟨kvs,k,e,rfl,hl,rfl⟩
theorem nq.t{H:Hp}{a b:Addr}{kvs:List (List Key×V)}{k:List Key}{v:V}(e:H a=some (.dT kvs))(eb:H b=some (.tup (k.map kV)))(hl:kvs.length<sizeLine):
  nq H a (.ref b) v (upd H a (.dT (zl8 kvs k v))):=.inr ⟨kvs,k,b,e,rfl,eb,hl,rfl⟩
section
variable {X:Cx}{pins:c7}{σ:St}{H:Hp}{s:Shared}{a:Addr}{y v:V}{u r:Value}{o:Option V}{A:Around}{E:cJ}
theorem Inv.big(I:Inv X pins σ H s):sysModules<s.heap.objs.size:=by
 have h:mainGlobals<s.heap.objs.size:=(I.mod.glob.keeps I.bk).lt;exact Nat.lt_trans (by decide) h
theorem ye{Q:cJ}(hu:A.units+1<cLine)(I:Inv X pins σ H s)(g:iG H a y (some v))(ry:RelV y u)(h:∀w' s',Inv X pins σ H s'->RelV v w'->Q w' s'):
  wpAny (model X.prog X.w) A (getItem (.ref a) u) Q E s:=by
 rcases g with⟨kvs,k,e,ey,l⟩|⟨kvs,k,b,e,ey,eb,l⟩
 ·subst ey
  obtain⟨z,hd,vs,rel,dd⟩:=oV I.hok e;obtain⟨w',hw,oM⟩:=jr.some_of (v:=v) (o:=valueAt vs k) (by rw[l];exact rel.val k);exact wpAny_getItem_of (vW ry) dd.mapOf hw (h w' _ (I.tok _) oM)
 ·subst ey
  cases(show u=Value.ref b from ry);obtain⟨z,hd,xs,rel,dd⟩:=yP I.hok e;obtain⟨w',hw,oM⟩:=jr.some_of (v:=v) (o:=(atKey xs k).map (·.2)) (by rw[l];exact rel.val k);obtain⟨p,hp,hp2⟩:=Option.map_eq_some_iff.mp hw;refine wpAny_getItem_heap (tupleKind_room_in1 hu) (yO I.hok eb) dd hp ?_;rw[hp2];exact h w' _ (I.tok _) oM
theorem yf{Q:cJ}(hu:A.units+1<cLine)(I:Inv X pins σ H s)(g:iG H a y o)(ry:RelV y u)(h:∀s',Inv X pins σ H s'->Q (.bool o.isSome) s'):
  wpAny (model X.prog X.w) A (compareOp .In u (.ref a)) Q E s:=by
 rcases g with⟨kvs,k,e,ey,l⟩|⟨kvs,k,b,e,ey,eb,l⟩
 ·subst ey
  obtain⟨z,hd,vs,rel,dd⟩:=oV I.hok e;refine wpAny_in_of (vW ry) hd dd.mapOf ?_;rw[<-(rel.val k).yN,<-l];exact h _ (I.tok _)
 ·subst ey
  cases(show u=Value.ref b from ry);obtain⟨z,hd,xs,rel,dd⟩:=yP I.hok e;refine wpAny_in_heap (tupleKind_room_in1 hu) (yO I.hok eb) hd dd ?_;have q:=(rel.val k).yN;rw[Option.isSome_map] at q
  rw[<-q,<-l];exact h _ (I.tok _)
theorem yi{Q:cJ}(hu:A.units+1<cLine)(I:Inv X pins σ H s)(g:iG H a y o)(ry:RelV y u)(h:∀s',Inv X pins σ H s'->Q (.bool (!o.isSome)) s'):
  wpAny (model X.prog X.w) A (compareOp .NotIn u (.ref a)) Q E s:=by
 rcases g with⟨kvs,k,e,ey,l⟩|⟨kvs,k,b,e,ey,eb,l⟩
 ·subst ey
  obtain⟨z,hd,vs,rel,dd⟩:=oV I.hok e;refine wpAny_notIn_of (vW ry) hd dd.mapOf ?_;rw[<-(rel.val k).yN,<-l];exact h _ (I.tok _)
 ·subst ey
  cases(show u=Value.ref b from ry);obtain⟨z,hd,xs,rel,dd⟩:=yP I.hok e;refine wpAny_notIn_heap (tupleKind_room_in1 hu) (yO I.hok eb) hd dd ?_;have q:=(rel.val k).yN;rw[Option.isSome_map] at q
  rw[<-q,<-l];exact h _ (I.tok _)
theorem Bl{h':Heap}{t':Nat}{ob:HO}(I:Inv X pins σ H s)(mu:xU (H a))(hs:Heap.SameBut a s.heap h')(he:∃q,h'.get? a=some q)(new:gB X.prog X.w (upd H a ob) h' a ob):
  Inv X pins σ (upd H a ob) { s with heap:=h',toks:=t' }:=
 I.write (x:=a) (e:=a) mu (.inl rfl) (λb q hb z=>(hs.2 b hb).trans z) he new
theorem G9{P:Program}{w:World}{H':Hp}{h':Heap}{kvs:List (Key×V)}{vs:List (Key×Value)}(z:kvs.length<=sizeLine)(hd:(a==sysModules)=false)(rel:KV kvs vs)(dd:h'.DictOf (eG P w) a vs):
  gB P w H' h' a (.dK kvs):=⟨z,hd,vs,rel,dd⟩
theorem yk{H':Hp}{Q:Unit->Shared->Prop}(hu:A.units+1<cLine)(I:Inv X pins σ H s)(g:nq H a y v H')(ry:RelV y u)(rv:RelV v r)(h:∀s',Inv X pins σ H' s'->Q () s'):
  wpAny (model X.prog X.w) A (setItem (.ref a) u r) Q E s:=by
 rcases g with⟨kvs,k,e,ey,l,eH⟩|⟨kvs,k,b,e,ey,eb,l,eH⟩
 ·subst ey eH
  obtain⟨z,hd,vs,rel,dd⟩:=G8 I.hok e;have hz:vs.length<=sizeLine:=by rw[<-rel.length];exact z
  have hl:(zl8 kvs k v).length<=sizeLine:=by have:=G7 kvs k v;omega
  refine wpAny_setItem_pairs (hsz:=hz) (vW ry) dd λh' qj hs=>h _ ?_
  have he:∃q,h'.get? a=some q:=let ⟨q,_,_,hq,_⟩:=qj;⟨q,hq⟩;exact Bl I (by rw[e];exact True.intro) hs he (G9 hl hd (rel.put k rv) qj)
 ·subst ey eH
  cases(show u=Value.ref b from ry);obtain⟨z,hd,xs,rel,dd⟩:=yb I.hok e;have hz:xs.length<=sizeLine:=by rw[<-Paired.length rel];exact z
  have hl:(zl8 kvs k v).length<=sizeLine:=by have:=G7 kvs k v;omega
  refine wpAny_setItem_heap (hsz:=hz) (tupleKind_room_in1 hu) (yO I.hok eb) dd λh' qj hs=>h _ ?_
  obtain⟨q,es,ep,hq,h2,h3,h4,_,h5⟩:=qj;refine Bl I (by rw[e];exact True.intro) hs ⟨q,hq⟩ ⟨hl,hd,_,(rel.put k eb rv).keeps λc ys ec=>?_,q,es,ep,hq,h2,h3,h4,h5⟩;rw[aJ (cR ec e (λz=>nomatch z))];exact ec
end
theorem yl{X:Cx}{pins:c7}{σ:St}{H:Hp}{s:Shared}{a:Addr}{y:V}{o:Option V}(I:Inv X pins σ H s)(g:iG H a y o):s.TypeIs (.ref a) "dict":=by
 rcases g with⟨kvs,k,e,_,_⟩|⟨kvs,k,b,e,_,_,_⟩
 ·obtain⟨_,_,vs,_,dd⟩:=oV I.hok e
  exact dd.typeIs
 ·obtain⟨_,_,xs,_,dd⟩:=yP I.hok e
  exact dd.typeIs
def ym(td ty:TE):TE:=λσ H Q=>td σ H λx H1=>ty σ H1 λy H2=>∃a v,x=.ref a/\iG H2 a y (some v)/\Q v H2
def yn(ty td:TE):TE:=λσ H Q=>ty σ H λy H1=>td σ H1 λx H2=>∃a o,x=.ref a/\iG H2 a y o/\Q (.bl o.isSome) H2
def yo(ty td:TE):TE:=λσ H Q=>ty σ H λy H1=>td σ H1 λx H2=>∃a o,x=.ref a/\iG H2 a y o/\Q (.bl (!o.isSome)) H2
def yv(td ty tv:TE):TS:=λD σ H=>tv σ H λv H1=>td σ H1 λx H2=>ty σ H2 λy H3=>∃a H4,x=.ref a/\nq H3 a y v H4/\D.nx σ H4
section
variable {X:Cx}{o i e value:Expr}{pos pos' tpos:Pos}{td ty tv:TE}
theorem yy(hu:X.A.units+1<cLine)(ho:PE X o td)(hi:PE X i ty)(hs:Fp i):PE X (.Subscript o i pos) (ym td ty):=by
 intro pins s σ H Q I h;refine Tz PySem.F.slot_dict_getitem.lookup hs (aX (ho pins s σ H _ I h) λu s1 ⟨x,H1,I1,rx,q1⟩=>aX (hi pins s1 σ H1 _ I1 q1) λiv s2 ⟨y,H2,I2,ry,a,v,ex,g,q2⟩=>?_);subst ex;obtain rfl:u=Value.ref a:=rx;exact⟨yl I2 g,ye hu I2 g ry λw' s3 I3 oM=>⟨v,H2,I3,oM,q2⟩⟩
theorem yz(hu:X.A.units+1<cLine)(hi:PE X i ty)(ho:PE X o td):PC X .In i o (yn ty td):=by
 intro pins s σ H Q I h;refine aX (hi pins s σ H _ I h) λiv s1 ⟨y,H1,I1,ry,q1⟩=>aX (ho pins s1 σ H1 _ I1 q1) λu s2 ⟨x,H2,I2,rx,a,ov,ex,g,q2⟩=>?_
 subst ex;obtain rfl:u=Value.ref a:=rx;exact yf hu I2 g ry λs3 I3=>⟨.bl ov.isSome,H2,I3,rfl,q2⟩
theorem yA(hu:X.A.units+1<cLine)(hi:PE X i ty)(ho:PE X o td):PC X .NotIn i o (yo ty td):=by
 intro pins s σ H Q I h;refine aX (hi pins s σ H _ I h) λiv s1 ⟨y,H1,I1,ry,q1⟩=>aX (ho pins s1 σ H1 _ I1 q1) λu s2 ⟨x,H2,I2,rx,a,ov,ex,g,q2⟩=>?_
 subst ex;obtain rfl:u=Value.ref a:=rx;exact yi hu I2 g ry λs3 I3=>⟨.bl (!ov.isSome),H2,I3,rfl,q2⟩
theorem yB(hu:X.A.units+1<cLine)(ho:PE X o td)(hi:PE X i ty)(hv:PE X value tv)(hs:swapsWith value (some (.Subscript o i pos')) pos.line X.env=pure false):
  PS X (.Assign [.Subscript o i pos'] value pos) (yv td ty tv):=by
 intro pins s σ H D I h;refine wpAny_Assign_Subscript (aX (hv pins s σ H _ I h) λr s1 ⟨v,H1,I1,rv,q1⟩=>aX (ho pins s1 σ H1 _ I1 q1) λu s2 ⟨x,H2,I2,rx,q2⟩=>aX (hi pins s2 σ H2 _ I2 q2) λiv s3 ⟨y,H3,I3,ry,a,H4,ex,g,q3⟩=>?_) hs;subst ex;obtain rfl:u=Value.ref a:=rx;exact yk hu I3 g ry rv λs4 I4=>⟨σ,H4,I4,q3⟩
end
theorem Ut{P:Program}{w:World}{H:Hp}(h:Heap)(hb:sysModules<h.objs.size):gB P w H (h.push { cls:=.type "dict",data:=.dict #[] }) h.objs.size (.dK []):=
 ⟨zero_le _,beq_eq_false_iff_ne.mpr (Ne.symm (ne_of_lt hb)),[],.nil,Heap.DictOf.new h⟩
theorem yT{P:Program}{w:World}{H:Hp}(h:Heap)(hb:sysModules<h.objs.size):gB P w H (h.push { cls:=.type "dict",data:=.dict #[] }) h.objs.size (.dT []):=
 ⟨zero_le _,beq_eq_false_iff_ne.mpr (Ne.symm (ne_of_lt hb)),[],.nil,_, #[],0,Heap.get?_push_size _ rfl,⟨rfl,rfl,rfl⟩,rfl,rfl,nodup_nil⟩
def yY:TE:=λ_ H Q=>∀p,H p=none->Q (.ref p) (upd H p (.dK []))
def zb:TE:=λ_ H Q=>∀p,H p=none->Q (.ref p) (upd H p (.dT []))
section
variable {X:Cx}{pos:Pos}
theorem zg:PE X (.Dict [] [] pos) yY:=λpins s σ H Q I h=>
 wpAny_Dict_empty ⟨.ref s.heap.objs.size,_,I.laid (a:=s.heap.objs.size) (o:=.dK []) (t':=s.toks) (λ_ _ q=>Heap.get?_push_of_some _ q) (le_refl _) (Ut s.heap I.big),rfl,h _ (I.hok.fresh (le_refl _))⟩
theorem zh:PE X (.Dict [] [] pos) zb:=λpins s σ H Q I h=>
 wpAny_Dict_empty ⟨.ref s.heap.objs.size,_,I.laid (a:=s.heap.objs.size) (o:=.dT []) (t':=s.toks) (λ_ _ q=>Heap.get?_push_of_some _ q) (le_refl _) (yT s.heap I.big),rfl,h _ (I.hok.fresh (le_refl _))⟩
end
def Ga:List (TE×TE)->St->Hp->(List (V×V)->Hp->Prop)->Prop
 |[],_,H,Q=>Q [] H
 |(tk,tv)::r,σ,H,Q=>tk σ H λx H1=>tv σ H1 λy H2=>Ga r σ H2 λps H3=>Q ((x,y)::ps) H3
abbrev VV:List (V×V)->List (Value×Value)->Prop:=Paired λp q=>RelV p.1 q.1/\RelV p.2 q.2
def Bm(X:Cx)(pos:Pos)(keys:List (Option Expr))(values:List Expr)(ql:List (TE×TE)):Prop:=
 ∀(pins:c7) (s:Shared) (σ:St) (H:Hp) (Q:List (V×V)->Hp->Prop),Inv X pins σ H s->Ga ql σ H Q->
  wpAny (model X.prog X.w) X.A (evalPairs (pairTrees keys values X.env pos)) (λvs s'=>∃ps H',Inv X pins σ H' s'/\VV ps vs/\Q ps H') X.xe s
theorem Gb{X:Cx}{pos:Pos}:Bm X pos [] [] []:=λpins s σ H Q I h=>pairTrees_nil_walk ⟨[],H,I,.nil,h⟩
theorem zk{X:Cx}{pos:Pos}{k v:Expr}{ks:List (Option Expr)}{vs:List Expr}{tk tv:TE}{ql:List (TE×TE)}(hk:PE X k tk)(hv:PE X v tv)(hr:Bm X pos ks vs ql):
  Bm X pos (some k::ks) (v::vs) ((tk,tv)::ql):=λpins s σ H Q I h=>
 pairTrees_cons_walk (aX (hk pins s σ H _ I h) λu s1 ⟨x,H1,I1,rx,q1⟩=>aX (hv pins s1 σ H1 _ I1 q1) λw2 s2 ⟨y,H2,I2,ry,q2⟩=>
  aX (hr pins s2 σ H2 _ I2 q2) λws s3 ⟨ps,H3,I3,rel,q3⟩=>⟨(x,y)::ps,H3,I3,.cons ⟨rx,ry⟩ rel,q3⟩)
def vX(kvs more:List (Key×V)):List (Key×V):=more.foldl (λacc kv=>zl8 acc kv.1 kv.2) kvs
theorem KV.merge:∀ {more:List (Key×V)} {rs:List (Key×Value)} {kvs:List (Key×V)} {vs:List (Key×Value)},KV more rs->KV kvs vs->KV (vX kvs more) (merged vs rs):=by
 intro more rs kvs vs r;unfold KV at r
 induction r generalizing kvs vs with
 |nil=>intro q;exact q
 |@cons p q ps qs h t ih=>
  intro r0;have e:KV (zl8 kvs p.1 p.2) (stored vs q.1 q.2):=by
   have:=r0.put p.1 h.2;rw[<-h.1];exact this
  exact ih e
theorem Uu:∀(more kvs:List (Key×V)),(vX kvs more).length<=kvs.length+more.length
 |[],kvs=>by show kvs.length<=kvs.length+0;omega
 |p::r,kvs=>by
  have h1:=Uu r (zl8 kvs p.1 p.2);have h2:=G7 kvs p.1 p.2;show(vX (zl8 kvs p.1 p.2) r).length<=_;rw[length_cons];omega
theorem Uv{P:Program}{w:World}:∀ {kvs:List (Key×V)} {ws:List (Value×Value)},VV (kvs.map λkv=>(kV kv.1,kv.2)) ws->∃rs,Carries (eG P w) ws rs/\KV kvs rs
 |[],_,r=>by rw[map_nil] at r;cases r;exact⟨[],True.intro,.nil⟩
 |p::kvs,_,r=>by
  rw[map_cons] at r
  cases r with
  |@cons a b as bs h t=>
   obtain⟨rs,c,q⟩:=Uv (P:=P) (w:=w) t;obtain⟨b1,b2⟩:=b;exact⟨(p.1,b2)::rs,⟨vW h.1,rfl,c⟩,.cons ⟨rfl,h.2⟩ q⟩
def zl(ql:List (TE×TE)):TE:=λσ H Q=>∀p,H p=none->Ga ql σ (upd H p (.dK [])) λps H2=>H2 p=some (.dK [])/\∃kvs:List (Key×V),ps=kvs.map (λkv=>(kV kv.1,kv.2))/\kvs.length<=15/\Q (.ref p) (upd H2 p (.dK (vX [] kvs)))
theorem zn{X:Cx}{pos:Pos}{keys:List (Option Expr)}{values:List Expr}{ql:List (TE×TE)}(h:Bm X pos keys values ql)(hall:keys.all (·.isSome)=true)(hl:keys.length=values.length)(h0:keys≠[])
  (h15:keys.length<=15):PE X (.Dict keys values pos) (zl ql):=by
 intro pins s σ H Q I q;have hn:=I.hok.fresh (le_refl s.heap.objs.size);have I1:=I.laid (a:=s.heap.objs.size) (o:=.dK []) (h':=s.heap.push { cls:=.type "dict",data:=.dict #[] }) (t':=s.toks) (λ_ _ q=>Heap.get?_push_of_some _ q) (le_refl _) (Ut s.heap I.big)
 refine wpAny_Dict_walk (knd:=eG X.prog X.w) hall hl h0 h15 (aX (h pins _ σ _ _ I1 (q _ hn)) λws s2 ⟨ps,H2,I2,rel,e,kvs,ep,lk,q2⟩=>?_);subst ep;obtain⟨rs,c,rk⟩:=Uv (P:=X.prog) (w:=X.w) rel;obtain⟨z,hd,vs0,r0,dd⟩:=G8 I2.hok e;cases r0;refine⟨rs,c,dd,λh' qj hs=>⟨.ref s.heap.objs.size,_,?_,rfl,q2⟩⟩;have hz:(vX [] kvs).length<=sizeLine:=by
  have h1:=Uu kvs [];rw[length_nil] at h1
  rw[sizeLine_eq];omega
 have he:∃q,h'.get? s.heap.objs.size=some q:=let ⟨q,_,_,hq,_⟩:=qj;⟨q,hq⟩;exact Bl I2 (by rw[e];exact True.intro) hs he (G9 hz hd (rk.merge .nil) qj)
structure M1(X:Cx)(o:Expr)(m:Str)(apos:Pos)(e:Expr)(cpos:Pos):Prop where
 base:attributeBase o m X.env (eval o X.env)=eval o X.env
 few:((backTo cpos (starEach [e] X.env)).all (λx => !x.1)&&(backToKw cpos (keywordEach [] X.env)).all (λx=>x.1.isSome)
  && decide (([e]:List Expr).length+([]:List Keyword).length+(if([]:List Keyword).isEmpty then 0 else 1)<30))=true
 line:(apos.endLine==cpos.line)=true
 trees:backTo cpos (starEach [e] X.env)=[(false,eval e X.env)]
structure M2(X:Cx)(o:Expr)(m:Str)(apos:Pos)(e f:Expr)(cpos:Pos):Prop where
 base:attributeBase o m X.env (eval o X.env)=eval o X.env
 few:((backTo cpos (starEach [e,f] X.env)).all (λx => !x.1)&&(backToKw cpos (keywordEach [] X.env)).all (λx=>x.1.isSome)
  && decide (([e,f]:List Expr).length+([]:List Keyword).length+(if([]:List Keyword).isEmpty then 0 else 1)<30))=true
 line:(apos.endLine==cpos.line)=true
 trees:backTo cpos (starEach [e,f] X.env)=[(false,eval e X.env),(false,eval f X.env)]
section
variable {X:Cx}{pins:c7}{σ:St}{H:Hp}{s:Shared}{a:Addr}{kvs:List (Key×V)}{A:Around}{E:cJ}
theorem zo{Q:cJ}(I:Inv X pins σ H s)(e:Rd H a (.dK kvs))(h:∀p s',H p=none->Inv X pins σ (upd H p (.dK kvs)) s'->Q (.ref p) s'):wpAny (model X.prog X.w) A (call (.type "dict") [.ref a]) Q E s:=by
 obtain⟨z,hd,vs,rel,dd⟩:=oV I.hok e;refine kt_call_dict hd dd (by rw[<-rel.length];exact z) λh' qj hs=>?_
 refine h _ _ (I.hok.fresh (le_refl _)) (I.laid (a:=s.heap.objs.size) (o:=.dK kvs) (t':=s.toks) (λb q hq=>?_) (le_refl _) (G9 z (beq_eq_false_iff_ne.mpr (Ne.symm (ne_of_lt I.big))) rel qj));exact(hs.2 b (ne_of_lt (Heap.lt_size hq))).trans (Heap.get?_push_of_some _ hq)
end
section
variable {κ:Type}[DecidableEq κ]
theorem Uw:∀ {l:List κ} {k:κ},l.Nodup->¬k∈l->(l++[k]).Nodup
 |[],k,_,_=>by simp
 |a::r,k,h,hk=>by
  obtain⟨h1,h2⟩:=List.nodup_cons.mp h;show(a::(r++[k])).Nodup;refine List.nodup_cons.mpr ⟨λm=>?_,Uw h2 λm=>hk (List.mem_cons.mpr (Or.inr m))⟩;rcases List.mem_append.mp m with q|q
  ·exact h1 q
  ·exact hk (List.mem_cons.mpr (Or.inl (List.mem_singleton.mp q).symm))
end
section
variable {X:Cx}
def zr(te:TE):TE:=λσ H Q=>te σ H λv H1=>∃d kvs,v=.ref d/\H1 d=some (.dK kvs)/\∀o,Q v (upd H1 d (.d6 o (.dK kvs)))
theorem zt{e:Expr}{te:TE}(h:PE X e te):PE X e (zr te):=by
 intro pins s σ H Q I hw;refine aX (h pins s σ H _ I hw) λu s1 ⟨x,H1,I1,r1,d,kvs,ex,hd,q⟩=>?_
 subst ex;have hok:=I1.hok d _ hd;obtain⟨o,ho⟩:=hok.there;have zz:gB X.prog X.w (upd H1 d (.d6 o (.dK kvs))) s1.heap d (.dK kvs):=by
  obtain⟨z,hs,vs,rel,dd⟩:=G8 I1.hok hd;exact⟨z,hs,vs,rel,dd⟩
 exact⟨.ref d,upd H1 d (.d6 o (.dK kvs)),Bl (t':=s1.toks) (h':=s1.heap) I1 (a:=d) (ob:=.d6 o (.dK kvs)) (by rw[hd];exact trivial) ⟨rfl,λ_ _=>rfl⟩ ⟨o,ho⟩ ⟨ho,zz⟩,r1,q o⟩
theorem Gd{P:Program}{w:World}{h:Heap}{a:Addr}{vs:List (Key×Value)}(d:h.DictOf (eG P w) a vs){o:Obj}(ho:h.get? a=some o):∃es ep,o.data=.dict es ep/\∀h':Heap,h'.get? a=some o->Heap.DictAt (eG P w) h' a vs ep:=by
 obtain⟨o',es,ep,ho',ex,hd,hk,hp,hn⟩:=d;rw[ho] at ho'
 cases ho';exact⟨es,ep,hd,λh' q=>⟨o,es,q,ex,hd,hk,hp,hn⟩⟩
theorem Ux{P:Program}{w:World}{k:Key}{v:Value}(h:(eG P w).is k v=true):RelV (kV k) v:=by
 rcases oH (show tY k v=true from h) with⟨i,t,rfl,rfl⟩|⟨x,t,rfl,rfl⟩
 ·exact⟨t,rfl⟩
 ·exact⟨t,rfl⟩
theorem KV.at{kvs:List (Key×V)}{vs:List (Key×Value)}(r:KV kvs vs){i:Nat}{k:Key}{x:Value}(h:vs[i]? = some (k,x)):∃y,kvs[i]? = some (k,y)/\RelV y x:=by
 have:∀ {kvs:List (Key×V)} {vs:List (Key×Value)} (i:Nat),Paired (λ(p:Key×V) (q:Key×Value)=>p.1=q.1/\RelV p.2 q.2) kvs vs->vs[i]? = some (k,x)->∃y,kvs[i]? = some (k,y)/\RelV y x:=by
  intro kvs vs i r
  induction r generalizing i with
  |nil=>intro h;simp at h
  |@cons p q _ _ e t ih=>
   intro h;cases i with
   |zero=>
    simp at h
    subst h;obtain⟨p1,p2⟩:=p;obtain⟨e1,e2⟩:=e;have e1:p1=k:=e1;subst e1;exact⟨p2,rfl,e2⟩
   |succ i=>
    obtain⟨y,h1,h2⟩:=ih i (by simpa using h);exact⟨y,by simpa using h1,h2⟩
 exact this i r h
def rT(a:Addr)(o:Obj)(kvs:List (Key×V)):It:=
 ⟨λi H=>i<kvs.length/\H a=some (.d6 o (.dK kvs)),λi H x H'=>H'=H/\∃kv,kvs[i]? = some kv/\x=kV kv.1,λi H=>i=kvs.length/\H a=some (.d6 o (.dK kvs))⟩
theorem zC {P : Program} {w : World} {K : Frag} {tg : Expr} {kvs : List (Key × V)} {vs : List (Key × Value)} {o : Obj} {ep : Nat} (a it : Addr) (rel : KV kvs vs) (at_ : ∀ h' : Heap, h'.get? a = some o -> Heap.DictAt (eG P w) h' a vs ep) :
    Turn P w K tg (rT a o kvs) [it] it (λi h => h.IsKeyIter it a i kvs.length ep) where
  mem := by simp
  obj := λi h st b hb => by
    have e : b = it := by simpa using hb
    subst e;obtain ⟨o, e, c, d⟩ := st;exact ⟨o, e, λv z => by rw [d] at z; cases z⟩
  keep := λi h h' st k => by
    obtain ⟨o, e, c, d⟩ := st;exact ⟨o, k it (by simp) o e, c, d⟩
  item := by
    intro X hP hw hK hc i pins s σ H E I hf st hg;subst hP hw hK;obtain ⟨hi, ha⟩ := hg;have hao : s.heap.get? a = some o := (I.hok a _ ha).1;obtain ⟨f0, f1, f2, f3, f4, f5⟩ := hf it (by simp);have ne : a ≠ it := λz => by rw [z, f0] at ha; cases ha
    have hl : kvs.length = vs.length := rel.length;refine (Walks.dictKeys (I.ok.hd hc) it a ne vs ep).item i s _ _ (by omega) ⟨by rw [<- hl]; exact st, at_ _ hao⟩ λv h' tk hv st' kk => ?_
    obtain ⟨k, x, hkx, hk⟩ := hv;obtain ⟨y, hy, _⟩ := rel.at hkx
    have I1 : Inv X pins σ H { s with heap := h', toks := tk } := I.turned (λb o hb e => kk b o (by simpa using hb) e) f0 f1 f3 f4 f5;have st2 : h'.IsKeyIter it a (i + 1) kvs.length ep := by rw [hl]; exact st'.1
    obtain ⟨oi, e, oc, d⟩ := id st2;exact ⟨_, rfl, y6 (s := { s with heap := h', toks := tk }) e oc d (by decide) ⟨kV k, H, I1, Ux hk, ⟨rfl, _, hy, rfl⟩, st2, λb hb => (hf b hb).1⟩⟩
  done := by
    intro X hP hw hK hc i pins s σ H E I hf st hg;subst hP hw hK;obtain ⟨hi, ha⟩ := hg;subst hi;have hao : s.heap.get? a = some o := (I.hok a _ ha).1;obtain ⟨f0, f1, f2, f3, f4, f5⟩ := hf it (by simp);have ne : a ≠ it := λz => by rw [z, f0] at ha; cases ha
    have hl : kvs.length = vs.length := rel.length;exact (Walks.dictKeys (I.ok.hd hc) it a ne vs ep).done s _ _ ⟨by rw [<- hl]; exact st, at_ _ hao⟩ λh' tk kk => ⟨rfl, I.turned (λb o hb e => kk b o (by simpa using hb) e) f0 f1 f3 f4 f5⟩
  self := λ_ _ _ _ _ st h => by
    first
    | exact wpAny_pyIter_keyiter st h
    | exact PySem.zh0 st h
def zD(tl:TE):TI:=λσ H R=>tl σ H λx H1=>∃a o kvs,x=.ref a/\H1 a=some (.d6 o (.dK kvs))/\R (rT a o kvs) H1
theorem zI{tg l:Expr}{tl:TE}(hl:PE X l tl):PI X tg l (zD tl):=by
 intro pins s σ H R I h;refine aX (hl pins s σ H _ I h) λv s1 ⟨x,H1,I1,r1,a,o,kvs,ex,ha,q⟩=>?_
 subst ex;cases r1;have hao:s1.heap.get? a=some o:=(I1.hok a _ ha).1;obtain⟨z,hs,vs,rel,dd⟩:=oV I1.hok (.inr ⟨o,ha⟩);obtain⟨es,ep,hd,at_⟩:=Gd dd hao;refine wpAny_pyIter_dict hs (at_ _ hao) ?_;refine⟨s1.heap.objs.size,[s1.heap.objs.size],_,_,H1,rfl,I1.kept (t':=s1.toks) λb o e=>Heap.get?_push_of_some _ e,zC (ep:=ep) a _ rel at_,⟨_,Heap.get?_push_size _ rfl,rfl,by rw[rel.length];rfl⟩,λb hb=>?_,q⟩;have e:b=s1.heap.objs.size:=by simpa using hb
 subst e;exact I1.qT (le_refl _) (I1.hok.fresh (le_refl _))
theorem Uy{a:Addr}{o:Obj}{kvs:List (Key×V)}{g:TG}{tb:TS}{D:Ends}{σ:St}{H:Hp}(Pv:Nat->St->Hp->Prop)(h0:Pv 0 σ H)(hl:∀i σ H,i<=kvs.length->Pv i σ H->H a=some (.d6 o (.dK kvs)))
  (hs:∀i kv σ H,kvs[i]? = some kv->Pv i σ H->g (kV kv.1) σ H λσ2 H2=>tb { D with nx:=Pv (i+1),ct:=Pv (i+1),bk:=D.nx } σ2 H2) (hd:∀σ H,Pv kvs.length σ H->D.nx σ H):
  ∃W:Nat->Nat->St->Hp->Prop,(∃m,W 0 m σ H)/\∀i m σ H,W i m σ H->
   ((rT a o kvs).stop i H/\D.nx σ H)\/((rT a o kvs).go i H/\∃N:St->Hp->Prop,(∀σ' H',N σ' H'->∃m',m'<m/\W (i+1) m' σ' H')/\∀x H',(rT a o kvs).jC i H x H'->g x σ H' λσ2 H2=>tb { D with nx:=N,ct:=N,bk:=D.nx } σ2 H2):=by
 refine⟨λi m σ H=>m=kvs.length - i/\i<=kvs.length/\Pv i σ H,⟨kvs.length,by simp,zero_le _,h0⟩,?_⟩
 rintro i m σ H ⟨rfl,hi,p⟩
 have q:=hl i σ H hi p
 by_cases hlt:i<kvs.length
 ·refine .inr ⟨⟨hlt,q⟩,Pv (i+1),λσ' H' p'=>⟨kvs.length - (i+1),by omega,rfl,hlt,p'⟩,λx H' y=>?_⟩
  obtain⟨e,kv,hkv,rfl⟩:=y;subst e;exact hs i kv σ _ hkv p
 ·have e:i=kvs.length:=by omega
  subst e;exact .inl ⟨⟨rfl,q⟩,hd σ H p⟩
theorem zS {a : Addr} {o : Obj} {kvs : List (Key × V)} {D : Addr} {τ : St} {te : TE} {H : Hp} {Q : Hp -> Prop} (Pv : Nat -> Hp -> List V -> Prop) (h0 : Pv 0 (upd H D (.lst [])) []) (hl : ∀ i H ys, i <= kvs.length -> Pv i H ys -> H a = some (.d6 o (.dK kvs)))
    (hs : ∀ i kv H ys, kvs[i]? = some kv -> Pv i H ys -> te (some (kV kv.1) :: τ) H λy H5 => H5 D = some (.lst ys) /\ ys.length < sizeLine /\ Pv (i + 1) (upd H5 D (.lst (ys ++ [y]))) (ys ++ [y]))
    (hd : ∀ H ys, Pv kvs.length H ys -> Q H) :
    ∃ W : Nat -> Nat -> Hp -> List V -> Prop, (∃ m, W 0 m (upd H D (.lst [])) []) /\ ∀ i m H' ys, W i m H' ys ->
      ((rT a o kvs).stop i H' /\ Q H') \/ ((rT a o kvs).go i H' /\ ∃ N : Hp -> List V -> Prop, (∀ H' ys', N H' ys' -> ∃ m', m' < m /\ W (i + 1) m' H' ys') /\ ∀ x H2, (rT a o kvs).jC i H' x H2 -> ur (some x :: τ) H2 λb H4 =>
        if b = true then te (some x :: τ) H4 λy H5 => H5 D = some (.lst ys) /\ ys.length < sizeLine /\ N (upd H5 D (.lst (ys ++ [y]))) (ys ++ [y])
        else N H4 ys) := by
  refine ⟨λi m H ys => m = kvs.length - i /\ i <= kvs.length /\ Pv i H ys, ⟨kvs.length, by simp, zero_le _, h0⟩, ?_⟩
  rintro i m H' ys ⟨rfl, hi, p⟩
  have q := hl i H' ys hi p
  by_cases hlt : i < kvs.length
  · refine .inr ⟨⟨hlt, q⟩, Pv (i + 1), λH2 ys' p' => ⟨kvs.length - (i + 1), by omega, rfl, hlt, p'⟩, λx H2 y => ?_⟩
    obtain ⟨e, kv, hkv, rfl⟩ := y;subst e;exact hs i kv _ ys hkv p
  · have e : i = kvs.length := by omega
    subst e;exact .inl ⟨⟨rfl, q⟩, hd H' ys p⟩
theorem Ge {K : Frag} {a D : Addr} {xs : List V} {τ : St} {ti : TT} {te : TE} {H : Hp} {Q : Hp -> Prop} (Pv : Nat -> Hp -> List V -> Prop) (h0 : Pv 0 (upd H D (.lst [])) [])
    (hl : ∀ i H ys, i <= xs.length -> Pv i H ys -> aG K H a xs)
    (hs : ∀ i x H ys, xs[i]? = some x -> Pv i H ys -> ti (some x :: τ) H λb H4 => if b = true then te (some x :: τ) H4 λy H5 => H5 D = some (.lst ys) /\ ys.length < sizeLine /\ Pv (i + 1) (upd H5 D (.lst (ys ++ [y]))) (ys ++ [y]) else Pv (i + 1) H4 ys)
    (hd : ∀ H ys, Pv xs.length H ys -> Q H) :
    ∃ W : Nat -> Nat -> Hp -> List V -> Prop, (∃ m, W 0 m (upd H D (.lst [])) []) /\ ∀ i m H' ys, W i m H' ys ->
      ((j3 K a).stop i H' /\ Q H') \/ ((j3 K a).go i H' /\ ∃ N : Hp -> List V -> Prop, (∀ H' ys', N H' ys' -> ∃ m', m' < m /\ W (i + 1) m' H' ys') /\ ∀ x H2, (j3 K a).jC i H' x H2 -> ti (some x :: τ) H2 λb H4 =>
        if b = true then te (some x :: τ) H4 λy H5 => H5 D = some (.lst ys) /\ ys.length < sizeLine /\ N (upd H5 D (.lst (ys ++ [y]))) (ys ++ [y])
        else N H4 ys) := by
  refine ⟨λi m H ys => m = xs.length - i /\ i <= xs.length /\ Pv i H ys, ⟨xs.length, by simp, zero_le _, h0⟩, ?_⟩
  rintro i m H ys ⟨rfl, hi, p⟩
  have q := hl i H ys hi p
  by_cases hlt : i < xs.length
  · refine .inr ⟨⟨xs, xs[i], q, by simp [hlt]⟩, Pv (i + 1), λH' ys' p' => ⟨xs.length - (i + 1), by omega, rfl, hlt, p'⟩, λx H' y => ?_⟩
    obtain ⟨e, y⟩ := y;subst e;exact hs i x _ ys (y xs q) p
  · have e : i = xs.length := by omega
    subst e;exact .inl ⟨⟨xs, q, le_refl _⟩, hd H ys p⟩
theorem An{P:Program}{w:World}{kvs:List (Key×V)}{vs:List (Key×Value)}{ns:List Int}(rel:KV kvs vs)(hn:kvs.map (·.1)=ns.map Sum.inl){acc:Array Value}(h:ItemsOf (λi v=>∃k x,vs[i]? = some (k,x)/\(eG P w).is k v=true) acc vs.length):IntsAre acc.toList ns:=by
 have hlen:acc.size=ns.length:=by
  rw[h.1,<-rel.length];have:=congrArg List.length hn
  simpa using this
 have hv:Vals (ns.map V.int) acc.toList:=by
  have:∀(xs:List V) (us:List Value),xs.length=us.length->(∀(i:Nat) (u:Value),us[i]? = some u->∃x,xs[i]? = some x/\RelV x u)->Vals xs us:=by
   intro xs
   induction xs with
   |nil=>intro us h _;cases us with|nil=>exact .nil|cons _ _=>simp at h
   |cons x xs ih=>
    intro us h hr;cases us with
    |nil=>simp at h
    |cons u us=>
     obtain⟨x',e,r⟩:=hr 0 u rfl;cases e;exact .cons r (ih us (by simpa using h) λi u' e=>hr (i+1) u' (by simpa using e))
  refine this _ _ (by simp[hlen]) λi u e=>?_
  have e2:acc[i]? = some u:=by simpa using e
  obtain⟨k,x,hkx,hk⟩:=h.2 i u e2;obtain⟨y,hy,_⟩:=rel.at hkx
  have e3:(kvs.map (·.1))[i]? = some k:=by rw[getElem?_map,hy];rfl
  rw[hn,getElem?_map] at e3
  cases z:ns[i]? with
  |none=>rw[z] at e3;cases e3
  |some n=>
   rw[z] at e3
   have e4:Sum.inl n=k:=Option.some.inj e3;subst e4;exact⟨.int n,by rw[getElem?_map,z];rfl,Ux hk⟩
 exact zl5 hv
theorem Ap:∀ {us:List Value} {ns:List Int},IntsAre us ns->Vals (ns.map V.int) us:=by
 intro us ns h
 induction h with
 |nil=>exact .nil
 |cons n t r ih=>exact .cons ⟨t,rfl⟩ ih
theorem As(hc:X.calm=true):je X (.builtin "sorted") (λxs H Q=>∃(a:Addr) (kvs:List (Key×V)) (ns:List Int),xs=[.ref a]/\Rd H a (.dK kvs)/\kvs.map (·.1)=ns.map Sum.inl/\ns.length<64/\
  ∀(l:Addr) (ns':List Int),ns'.Perm ns->ns'.Pairwise (· <= ·)->H l=none->Q (.ref l) (upd H l (.lst (ns'.map V.int)))):=by
 intro pins s σ H xs us Q I r h;obtain⟨a,kvs,ns,rfl,ha,hn,h64,q⟩:=h;obtain⟨u,rfl,ru⟩:=zl2 r;cases ru;obtain⟨z,hs,vs,rel,dd⟩:=oV I.hok ha;obtain⟨oo,ho⟩:=(show ∃o,s.heap.get? a=some o from by obtain⟨o,_,_,e,_⟩:=id dd;exact⟨o,e⟩);obtain⟨es,ep,hd,at_⟩:=Gd dd ho;have hh:=I.ok.hd hc;have hlen:vs.length=ns.length:=by
  rw[<-rel.length];have:=congrArg List.length hn
  simpa using this
 refine wpAny_call (codeAny_call_builtin plain_sorted entry_sorted ?_);have ea:checkBuiltinCall "sorted" { pos:=[Value.ref a] }=pure ():=PyProof.Rows.args_sorted1 _
 rw[ea];refine wpAny_pure ?_;show wpAny (model X.prog X.w) X.A.in1 (Builtin.sorted { pos:=[Value.ref a] }) _ _ s;unfold Builtin.sorted;refine wpAny_bind (wpAny_pure ?_);refine wpAny_bind (W.kdu_collect (W.kdl_dict (knd:=eG X.prog X.w) (kvs:=vs) (ep:=ep) hs) hh (at_ _ ho) (by rw[hlen];exact le_of_lt (lt_of_lt_of_le h64 (by decide))) λh' tk acc kp it=>?_);have ia:=An (P:=X.prog) (w:=X.w) rel hn it;have I1:Inv X pins σ H { s with heap:=h',toks:=tk }:=I.kept kp;have hal:acc.toList.length=ns.length:=by have:=it.1;simp[this,hlen]
 refine wpAny_bind (wpAny_newList ?_ (by rw[hal];exact le_of_lt (lt_of_lt_of_le h64 (by decide))));have hob:(h'.push { cls:=.type "list",data:=.seq acc.toList.toArray }).get? h'.objs.size=some (seqObj "list" acc.toList.toArray 0):=Heap.get?_push_size _ rfl
 refine wpAny_bind (wpAny_holding (wpAny_call_entry_kw (kw:=[]) PyProof.Rows.slot_list_sort ⟨_,hob,rfl⟩ PyProof.Rows.entry_list_sort (list_sort_tree hob ia (by rw[hal];exact h64) λout ns' io pm so=>⟨_,rfl,?_⟩) (PyProof.Rows.args_list_sort _)));refine wpAny_pure ?_;obtain⟨e,hat⟩:=sortedHeap_at (out:=out) hob;have hl:ns'.length=ns.length:=pm.length_eq;refine⟨.ref h'.objs.size,_,I1.laid (t':=tk) (o:=.lst (ns'.map V.int)) (λb ob hb=>?_) (le_refl _) ⟨?_,out.toList,e,Ap io,by simpa using hat⟩,rfl,q _ _ pm so (I1.hok.fresh (le_refl _))⟩
 ·have hlt:=Heap.lt_size hb
  rw[sortedHeap_old (ne_of_lt hlt) (lt_of_lt_of_le hlt (by simp[Heap.push]))];exact Heap.get?_push_of_some _ hb
 ·rw[length_map,hl];exact le_of_lt (lt_of_lt_of_le h64 (by decide))
theorem Au:je X (.type "dict") (λxs H Q=>∃(a:Addr) (kvs:List (Key×V)),xs=[.ref a]/\Rd H a (.dK kvs)/\∀p,H p=none->Q (.ref p) (upd H p (.dK kvs))):=by
 intro pins s σ H xs us Q I r h;obtain⟨a,kvs,rfl,ha,q⟩:=h;obtain⟨u,rfl,ru⟩:=zl2 r;cases ru;exact zo I ha λp s' hp I'=>⟨.ref p,_,I',rfl,q p hp⟩
def Bo(v d:Addr):HO:=.ext λh=>h.IsValuesView v d
def AA(to:TE):TE:=λσ H Q=>to σ H λx H1=>∃d kvs,x=.ref d/\Rd H1 d (.dK kvs)/\∀v,H1 v=none->Q (.ref v) (upd H1 v (Bo v d))
theorem AB{o:Expr}{to:TE}{apos cpos:Pos}(ho:PE X o to)(hbase:attributeBase o "values" X.env (eval o X.env)=eval o X.env:=by rfl)(hline:(apos.endLine==cpos.line)=true:=by rfl):PE X (.Call (.Attribute o "values" apos) [] [] cpos) (AA to):=by
 intro pins s σ H Q I h;refine wpAny_Call_method0_late hbase hline (aX (ho pins s σ H _ I h) λv s1 ⟨x,H1,I1,r1,d,kvs,ex,hd,q1⟩=>?_);subst ex;cases r1;obtain⟨z,hs,vs,rel,dd⟩:=oV I1.hok hd;obtain⟨ob,es,ep,hob,ex,_⟩:=id dd;refine⟨"dict",_,plainAttrs_dict,PySem.F.slot_dict_values,PySem.F.type_dict_values,⟨ob,hob,ex.1⟩,λa e=>?_,?_⟩
 ·cases e
  exact⟨ob,hob,ex.2.1⟩
 refine Calls.callWith_builtin rfl (PySem.evalArgs_none (call_meetsIn PySem.F.slot_dict_values ⟨ob,hob,ex.1⟩ PySem.F.entry_dict_values (PySem.F.args_dict_values_1 _) (meets_dict_values (eG X.prog X.w) d hs) ⟨⟨vs,dd⟩,?_⟩));refine⟨.ref s1.heap.objs.size,_,I1.laid (t':=s1.toks) (o:=Bo s1.heap.objs.size d) (λb u e=>Heap.get?_push_of_some _ e) (le_refl _) ⟨⟨_,Heap.get?_push_size _ rfl,rfl,rfl⟩,⟨_,Heap.get?_push_size _ rfl⟩,λh1 h2 ⟨o1,e1,e2,e3⟩ k=>⟨o1,k o1 e1,e2,e3⟩⟩,rfl,q1 _ (I1.hok.fresh (le_refl _))⟩
theorem AC(hc:X.calm=true):je X (.builtin "min") (λxs H Q=>∃(v d:Addr) (kvs:List (Key×V)) (ns:List Int),xs=[.ref v]/\H v=some (Bo v d)/\Rd H d (.dK kvs)/\kvs.map (·.2)=ns.map V.int/\ns≠[]/\
  ∀m,m∈ns->(∀n∈ns,m<=n)->Q (.int m) H):=by
 intro pins s σ H xs us Q I r h;obtain⟨v,d,kvs,ns,rfl,hv,ha,hn,hne,q⟩:=h;obtain⟨u,rfl,ru⟩:=zl2 r;cases ru;obtain⟨z,hs,vs,rel,dd⟩:=oV I.hok ha;obtain⟨oo,ho⟩:=(show ∃o,s.heap.get? d=some o from by obtain⟨o,_,_,e,_⟩:=id dd;exact⟨o,e⟩);obtain⟨es,ep,hd,at_⟩:=Gd dd ho;have hh:=I.ok.hd hc;have vw:s.heap.IsValuesView v d:=(I.hok v _ hv).1;have hlen:vs.length=ns.length:=by
  rw[<-rel.length];have:=congrArg List.length hn
  simpa using this
 have hpos:0<ns.length:=by cases ns with|nil=>exact absurd rfl hne|cons _ _=>simp
 have nd:d≠s.heap.objs.size:=ne_of_lt (Heap.lt_size ho);have item:∀(i:Nat) (vi:Value),(∃k,vs[i]? = some (k,vi))->∃t,vi=.int (ns.getD i 0) t:=λi vi ⟨k,e⟩=>by
  obtain⟨y,hy,ry⟩:=rel.at e
  have e3:(kvs.map (·.2))[i]? = some y:=by rw[getElem?_map,hy];rfl
  rw[hn,getElem?_map] at e3
  cases w:ns[i]? with
  |none=>rw[w] at e3;cases e3
  |some n=>
   rw[w] at e3
   have e4:V.int n=y:=Option.some.inj e3;subst e4;obtain⟨t,rfl⟩:=ry;exact⟨t,by rw[getD_eq_getElem?_getD,w];rfl⟩
 refine call_min_walk (wpAny_pyIter_values (knd:=eG X.prog X.w) vw (at_ _ ho) ?_);have at2:Heap.DictAt (eG X.prog X.w) (s.heap.push { cls:=.type "dict_valueiterator",data:=.fields #[.ref d,.int 0 0,.int (vs.length:Nat) 0,.int (ep:Nat) 0] }) d vs ep:=at_ _ (Heap.get?_push_of_some _ ho)
 refine⟨s.heap.objs.size,[s.heap.objs.size,d],[s.heap.objs.size],vs.length,_,_,λi j=>decide (ns.getD i 0<ns.getD j 0),rfl,Walks.dictValues (knd:=eG X.prog X.w) (by exact hh) s.heap.objs.size d nd vs ep,⟨⟨_,Heap.get?_push_size _ rfl,rfl,rfl⟩,at2⟩,λb hb=>?_,by omega,?_,λw h' tk hw kp=>?_⟩
 ·have hb:b=s.heap.objs.size\/b=d:=by simpa using hb
  rcases hb with e|e
  ·rw[e];show _<(s.heap.objs.push _).size;rw[Array.size_push];exact lt_succ_self _
  ·rw[e];show _<(s.heap.objs.push _).size;rw[Array.size_push];exact lt_succ_of_lt (Heap.lt_size ho)
 ·intro i j vi vj s' Q' E' hi hj hq
  obtain⟨t,rfl⟩:=item i vi hi;obtain⟨t',rfl⟩:=item j vj hj;exact(lt_int hq:wpAny _ _ (compareOp .Lt _ _) _ _ _)
 ·obtain⟨t,rfl⟩:=item _ w hw
  obtain⟨b1,b2⟩:=argBest_lt (λi=>ns.getD i 0) (vs.length - 1);have hlt:argBest (λi j=>decide (ns.getD i 0<ns.getD j 0)) (vs.length - 1)<ns.length:=Nat.lt_of_le_of_lt b1 (by omega);have I1:Inv X pins σ H { s with heap:=s.heap.push { cls:=.type "dict_valueiterator",data:=.fields #[.ref d,.int 0 0,.int (vs.length:Nat) 0,.int (ep:Nat) 0] } }:=I.kept (t':=s.toks) λb o e=>Heap.get?_push_of_some _ e
  have fp:=I.qT (b:=s.heap.objs.size) (le_refl _) (I.hok.fresh (le_refl _));obtain⟨f0,f1,f2,f3,f4,f5⟩:=fp
  have I2:Inv X pins σ H { s with heap:=h',toks:=tk }:=I.kept (t':=tk) λb o e=>kp b o (λz=>by
   have z:b=s.heap.objs.size:=by simpa using z
   exact absurd (Heap.lt_size e) (by rw[z];exact lt_irrefl _)) (Heap.get?_push_of_some _ e)
  refine⟨.int _,H,I2,⟨t,rfl⟩,q _ ?_ ?_⟩
  ·rw[getD_eq_getElem?_getD,getElem?_eq_getElem hlt]
   exact List.getElem_mem hlt
  ·intro n hn'
   obtain⟨j,hj,rfl⟩:=List.mem_iff_getElem.mp hn';have:=b2 j (by rw[hlen];omega);rw[getD_eq_getElem?_getD (l:=ns) (i:=j),getElem?_eq_getElem hj] at this
   exact this
theorem AF:gC X (binaryOp .FloorDiv) (rI (λ_ j=>j=1000000000000) λi j=>.int (i / j)):=yg λi j _ _ _ _ _ hc q=>by
 have h1:j=1000000000000:=hc;subst h1;exact floordiv_int (by decide) (by rw[Int.fdiv_eq_ediv_of_nonneg i (by decide)];exact q) (.inl (PyProof.noPylong_of_log2 ⋯))
end
section
variable {X:Cx}{d:Addr}{vs:List (Key×Value)}
def AG(d:Addr)(vs:List (Key×Value))(td ty:TE):TE:=λσ H Q=>td σ H λx H1=>x=.ref d/\ty σ H1 λy H2=>∃z v,y=.str z/\RelV v ((valueAt vs (Sum.inr z:Key)).getD .none)/\Q v H2
theorem AH{o e:Expr}{apos cpos:Pos}{td ty:TE}(hs:(d==sysModules)=false)(dd:X.base.DictOf (eG X.prog X.w) d vs)(ho:PE X o td)(he:PE X e ty)(m:M1 X o "get" apos e cpos):PE X (.Call (.Attribute o "get" apos) [e] [] cpos) (AG d vs td ty):=by
 intro pins s σ H Q I h;refine wpAny_Call_method m.base m.few m.line plainAttrs_dict slot_dict_get PySem.F.type_dict_get (aX (ho pins s σ H _ I h) λu s1 ⟨x,H1,I1,rx,ex,q1⟩=>?_);subst ex;obtain rfl:u=Value.ref d:=rx;have yQ:=vM dd I1.bk;refine⟨yQ.typeIs,λb q=>?_,?_⟩
 ·cases q
  obtain⟨ob,_,_,h1,h2,_⟩:=yQ;exact⟨ob,h1,h2.2.1⟩
 rw[m.trees];refine Calls.callWith_builtin rfl (Calls.evalArgs_plain (Calls.spliced_cons (aX (he pins s1 σ H1 _ I1 q1) λiv s2 ⟨y,H2,I2,ry,z,v,ey,rv,q2⟩=>Calls.spliced_nil ?_)));subst ey;obtain⟨t,rfl⟩:=ry;have dd2:=vM dd I2.bk;exact call_meetsIn slot_dict_get dd2.typeIs PySem.F.entry_dict_get (PySem.F.args_dict_get_2 _ _) (meets_dict_get (eG X.prog X.w) d (xT _ _ z t) hs) ⟨_,dd2.mapOf,v,H2,I2.tok _,rv,q2⟩
def AI(d:Addr)(vs:List (Key×Value))(td ty tz:TE):TE:=λσ H Q=>td σ H λx H1=>x=.ref d/\ty σ H1 λy H2=>tz σ H2 λe H3=>∃z,y=.str z/\((∃v u,valueAt vs (Sum.inr z:Key)=some u/\RelV v u/\Q v H3)\/(valueAt vs (Sum.inr z:Key)=none/\Q e H3))
theorem AJ{o e f:Expr}{apos cpos:Pos}{td ty tz:TE}(hs:(d==sysModules)=false)(dd:X.base.DictOf (eG X.prog X.w) d vs)(ho:PE X o td)(he:PE X e ty)(hf:PE X f tz)(m:M2 X o "get" apos e f cpos):PE X (.Call (.Attribute o "get" apos) [e,f] [] cpos) (AI d vs td ty tz):=by
 intro pins s σ H Q I h;refine wpAny_Call_method m.base m.few m.line plainAttrs_dict slot_dict_get PySem.F.type_dict_get (aX (ho pins s σ H _ I h) λu s1 ⟨x,H1,I1,rx,ex,q1⟩=>?_);subst ex;obtain rfl:u=Value.ref d:=rx;have yQ:=vM dd I1.bk;refine⟨yQ.typeIs,λb q=>?_,?_⟩
 ·cases q
  obtain⟨ob,_,_,h1,h2,_⟩:=yQ;exact⟨ob,h1,h2.2.1⟩
 rw[m.trees]
 refine Calls.callWith_builtin rfl (Calls.evalArgs_plain (Calls.spliced_cons (aX (he pins s1 σ H1 _ I1 q1) λiv s2 ⟨y,H2,I2,ry,q2⟩=>
  Calls.spliced_cons (aX (hf pins s2 σ H2 _ I2 q2) λfv s3 ⟨e,H3,I3,re,z,ey,q3⟩=>Calls.spliced_nil ?_))))
 subst ey;obtain⟨t,rfl⟩:=ry;have dd2:=vM dd I3.bk;refine call_meetsIn slot_dict_get dd2.typeIs PySem.F.entry_dict_get (PySem.F.args_dict_get_3 _ _ _) (meets_dict_get_default (eG X.prog X.w) d (xT _ _ z t) hs fv) ⟨_,dd2.mapOf,?_⟩;rcases q3 with⟨v,u,e1,rv,q⟩|⟨e1,q⟩
 ·rw[e1];exact⟨v,H3,I3.tok _,rv,q⟩
 ·rw[e1];exact⟨e,H3,I3.tok _,re,q⟩
end
theorem AK:typeLookup (.type "list_reverseiterator") "__len__"=pure none:=by rw[typeLookup_type,builtinLookup_eq_fast];kernel_rfl
theorem AO:typeLookup (.type "list_reverseiterator") "__length_hint__"=pure (some (.builtin "list_reverseiterator.__length_hint__")):=by rw[typeLookup_type,builtinLookup_eq_fast];kernel_rfl
section
variable {prog:Program}{w:World}{A:Around}{E:cJ}{s:Shared}{it:Addr}{fp wr:List Addr}{n:Nat}{P:Nat->Value->Prop}{Z:Nat->Shared->Prop}{G:Array GenState->Array GenState->Prop}
theorem AQ{Q:List Value->Shared->Prop}(W:WalksS prog w A.in1 it fp wr G n P Z)(hT:∀i s,Z i s->s.TypeIs (.ref it) "list_reverseiterator")(z0:Z 0 s)(hfp:∀b∈fp,b<s.heap.objs.size)(hI:it∈fp)(hn:n<=sizeLine)
  (hQ:∀s' acc,Moved wr G s s'->ItemsOf P acc n->Q acc.toList s'):wpAny (model prog w) A (collect (.ref it)) Q E s:=by
 have nf:s.heap.objs.size∉fp:=λm=>lt_irrefl _ (hfp _ m)
 have ni:s.heap.objs.size≠it:=λe=>nf (e▸hI)
 unfold collect;refine wpAny_bind (wpAny_runValue (codeAny_builtin F.entry_proto_collect ?_));rw[Around.under_plainId F.plain_proto_collect _];show wpAny _ A.in1 (newList [] >>= λr=>again (.builtin "list.__iadd__" ⟨[r,.ref it],[]⟩)) _ _ s
 refine wpAny_bind (wpAny_newObj_type ?_);refine wpAny_pure ⟨plainId_quiet F.plain_list_iadd _,codeAny_builtin F.entry_list_iadd ?_⟩;rw[Around.under_plainId F.plain_list_iadd _];have z1:=W.frame 0 s (s.heap.push { cls:=.type "list",data:=.seq ([]:List Value).toArray }) s.toks z0 (le_refl _) λb _ ob e=>Heap.get?_push_of_some _ e
 have g1:(s.heap.push { cls:=.type "list",data:=.seq ([]:List Value).toArray }).get? s.heap.objs.size=some { cls:=.type "list",data:=.seq ([]:List Value).toArray }:=Heap.get?_push_size _ rfl
 have AT:Builtin.List.listSameRef (.ref s.heap.objs.size) (.ref it)=false:=by simp[Builtin.List.listSameRef,ni]
 show wpAny _ A.in1 (Builtin.List.listExtendWith (.ref s.heap.objs.size) (.ref it) (.ref s.heap.objs.size)) _ _ _;unfold Builtin.List.listExtendWith;refine wpAny_bind (wpAny_typeOf (hT 0 _ z1) ?_);rw[if_neg (by rw[AT];decide)];refine wpAny_bind (W.self 0 _ _ _ z1 ?_);refine wpAny_bind (wpAny_holding ?_);unfold Builtin.List.listLengthHint;refine wpAny_bind (wpAny_specialOf (hT 0 _ z1) AK ?_);show wpAny _ A.in1 (specialOf (Value.ref it) (Str.ofString "__length_hint__") >>= _) _ _ _;refine wpAny_bind (wpAny_specialOf (hT 0 _ z1) AO ?_)
 generalize hid:("list_reverseiterator.__length_hint__":String)=id0;(fail_if_success (clear hid id0));wp_delta;rw[show splitId id0=some ("list_reverseiterator","__length_hint__") from by subst hid;decide +kernel];subst hid
 refine wpAny_bind (wpAny_isInstance (b:=true) (hT 0 _ z1) (by rw[isSubtype_type];kernel_rfl) ?_);refine wpAny_pure ?_;rw[if_neg (by decide)];refine wpAny_pure ⟨plainId_quiet F.plain_extend_loop _,codeAny_extend_loopS W hn _ nf _ n 0 _ _ _ rfl (zero_le _) z1 g1 (ItemsOf.nil P) λs' acc c' hm g' ia=>?_⟩;show wpAny _ A (load s.heap.objs.size >>= _) _ _ s';refine wpAny_bind (wpAny_load g' ?_);exact wpAny_pure (hQ s' acc (Moved.drop_new (o:={ cls:=.type "list",data:=.seq ([]:List Value).toArray }) (tk:=s.toks) hm (le_refl _)) ia)
theorem AU{x:Str}{t:Tok}{Q:cJ}(W:WalksS prog w A.in1.in1 it fp wr G n P Z)(hT:∀i s,Z i s->s.TypeIs (.ref it) "list_reverseiterator")(z0:Z 0 s)(hfp:∀b∈fp,b<s.heap.objs.size)(hI:it∈fp)(hn:n<=sizeLine)
  (hstr:∀i v,P i v->∃y u,v=Value.str y u)
  (hq:∀s' (l:List (Str×Tok)),Moved wr G s s'->ItemsOf P (strValues l).toArray n->JoinOk x (l.map (·.1))=true/\∀t' k,Q (.str (Txt.join x (l.map (·.1))) t') { s' with toks:=k }):
  wpAny (model prog w) A (call (.builtin "str.join") [.str x t,.ref it]) Q E s:=by
 refine wpAny_call (codeAny_call_builtin F.slot_str_join.plain F.entry_str_join (F.slot_str_join.check _ _ _ _ _ _ _ _ (typeIs_str _ _ _) (F.args_str_join_2 _ _) ?_));rw[join_tree_other];refine wpAny_bind (wpAny_typeOf (hT 0 s z0) ?_);show wpAny _ A.in1 ((pyIter (.ref it)).tryCatch _ >>= λi=>collect i >>= λvs=>joinTail x vs) _ _ s;refine wpAny_bind (wpAny_tryCatch (W.of_in1.self 0 s _ _ z0 ?_));refine wpAny_bind (AQ W hT z0 hfp hI hn λs' acc hm ia=>?_);obtain⟨l,hl⟩:=exists_strValues acc.toList λv hv=>by
  obtain⟨j,hj,rfl⟩:=Array.mem_iff_getElem.mp (Array.mem_toList_iff.mp hv);exact hstr j _ (ia.2 j _ (Array.getElem?_eq_getElem hj))
 rw[<-hl];have AV:ItemsOf P (strValues l).toArray n:=by rw[hl];simpa using ia
 obtain⟨Bp,post⟩:=hq s' l hm AV;unfold JoinOk at Bp;rw[Bool.not_eq_true'] at Bp
 have g:Gives (joinTail x (strValues l)) (joinMade x l):=by
  have g0:=gives_joinTail x l Bp;cases l with
  |nil=>exact g0
  |cons p r=>cases r<;>exact g0
 exact g prog w A (wants Q E) s' (post_join l ⟨joinFit_length Bp,post⟩)
end
section
variable {X:Cx}
def AW(K:Frag)(to:TE)(ta:TA):TE:=λσ H Q=>to σ H λx H1=>∃z,x=.str z/\ta σ H1 λvs H2=>∃(l:Addr) (y:Str),vs=[.ref l]/\aG K H2 l [V.str y]/\JoinOk z [y]=true/\Q (.str (Txt.join z [y])) H2
theorem AX{o a:Expr}{apos cpos p pos:Pos}{to:TE}{ta:TA}(hh:X.A.handled=none)(ho:PE X o to)(hg:Gl X "reversed")(hm:X.mg "reversed"=none)(ha:PA X [a] ta)(m:M1 X o "join" apos (.Call (.Name "reversed" p) [a] [] pos) cpos)(hs:starEach [a] X.env=[(false,eval a X.env)]:=by rfl):
  PE X (.Call (.Attribute o "join" apos) [.Call (.Name "reversed" p) [a] [] pos] [] cpos) (AW X.K to ta):=by
 intro pins s σ H Q I h;refine wpAny_Call_method m.base m.few m.line plainAttrs_str PySem.F.slot_str_join PySem.F.type_str_join (aX (ho pins s σ H _ I h) λu s1 ⟨x,H1,I1,rx,z,ex,q1⟩=>?_);subst ex;obtain⟨t,rfl⟩:=rx;refine⟨typeIs_str _ _ _,(λb q=>nomatch q),?_⟩;rw[m.trees];refine Calls.callWith_builtin rfl (Calls.evalArgs_plain (Calls.spliced_cons ?_));refine Call_ (y4 I1 hg hm boot_reversed (PyProof.Rows.callWith_type1 (aX (ha pos pins s1 σ H1 _ I1 q1) λus s2 ⟨vs,H2,I2,r2,l,y,ev,hq,hj,q2⟩=>?_) hs rfl));subst ev;obtain⟨u,rfl,ru⟩:=zl2 r2;cases ru;obtain⟨its,rv,pl,hz'⟩:=I2.list hq;obtain⟨w1,rfl,AY⟩:=zl2 rv;obtain⟨ty,rfl⟩:=AY;refine call_reversed_list pl.isList (Calls.spliced_nil ?_);have e0:(([Value.str y ty]:List Value).toArray.size:Int) - 1=(([Value.str y ty]:List Value).toArray.size:Int) - 1 - ((0:Nat):Int):=by omega
 have st:Heap.IsRevIter (s2.heap.push (revObj l ((([Value.str y ty]:List Value).toArray.size:Int) - 1))) s2.heap.objs.size l ((([Value.str y ty]:List Value).toArray.size:Int) - 1 - ((0:Nat):Int)):=by
  refine⟨_,Heap.get?_push_size _ rfl,rfl,?_⟩;rw[<-e0];rfl
 have hlt:l<s2.heap.objs.size:=by obtain⟨ob,e,_⟩:=pl.isList;exact Heap.lt_size e
 have I3:Inv X pins σ H2 { s2 with heap:=s2.heap.push (revObj l ((([Value.str y ty]:List Value).toArray.size:Int) - 1)) }:=I2.kept (t':=s2.toks) λb ob e=>Heap.get?_push_of_some _ e
 obtain⟨f0,f1,f2,f3,f4,f5⟩:=I2.qT (le_refl _) (I2.hok.fresh (le_refl _));refine AU (it:=s2.heap.objs.size) (Walks.listRev (A:=X.A.in1.in1) hh s2.heap.objs.size l (ne_of_lt hlt) ([Value.str y ty]:List Value).toArray).toS (λi s' x=>x.2.1.typeIs) ⟨zero_le _,st,pl.isList.at λob e=>Heap.get?_push_of_some _ e⟩ (λb hb=>?_) (by simp) ?_ (λi v hv=>?_) (λs' lv hm ia=>?_)
 ·simp only[mem_cons,not_mem_nil,or_false] at hb
  show b<(s2.heap.push _).objs.size;rw[Heap.size_push];rcases hb with hb|hb
  ·rw[hb];exact lt_succ_self _
  ·rw[hb];exact lt_succ_of_lt hlt
 ·show 1<=sizeLine;decide
 ·have hv:([Value.str y ty]:List Value)[0 - i]? = some v:=by simpa using hv
  rw[Nat.zero_sub] at hv
  exact⟨y,ty,(Option.some.inj hv).symm⟩
 ·have em:lv.map (·.1)=[y]:=by
   have h1:=ia.1;have h2:=ia.2 0
   match lv,h1,h2 with
   |[p],_,h2=>
    have h3:some (Value.str y ty)=some (Value.str p.1 p.2):=h2 (Value.str p.1 p.2) rfl
    injection h3 with h3
    injection h3 with h3 _
    show[p.1]=[y];rw[h3]
   |[],h1,_=>simp[strValues] at h1
   |_::_::_,h1,_=>simp[strValues] at h1
  rw[em];refine⟨hj,λt' k=>?_⟩;obtain⟨h1,h2,h3,h4,h5⟩:=hm;obtain⟨hp',g',d',tk',os'⟩:=s';have h2:g'=s2.gens:=h2;have h3:d'=s2.drawn:=h3;have h4:os'=s2.os:=h4;subst h2 h3 h4;exact⟨.str _,H2,I3.turned (t':=k) (λb ob hb e=>h1 b ob (by simpa using hb) e) f0 f1 f3 f4 f5,⟨_,rfl⟩,q2⟩
end
abbrev qm:=cH▸@yy
abbrev Gf:=cH▸yC▸@yz
abbrev yR:=cH▸yC▸@yA
abbrev yS:=cH▸jK▸@yB
abbrev Uz:=cH▸@zg
abbrev UG:=cH▸@zh
abbrev Gg:=cH▸@zk
abbrev Gi:=cH▸@zn
abbrev Bq:=cH▸@zt
abbrev Gj:=cH▸rF▸@zI
abbrev AZ:=cH▸@AB
abbrev Be:=cH▸@AH
abbrev Bi:=cH▸@AJ
abbrev Bn:=cH▸iB▸@AX
end L2
namespace Pq
open PySem L2
variable {p q:Plan}{ps qs:List Plan}{l f D g dB aW la na ga C fL fN fS fR fP fO CN fM fW fE fA fG fJ fF dT CB:PySem.Addr}{m n i k τ c y d:Nat}{H H' H1 H2:L2.Hp}{P:PySem.Program}{w:PySem.World}{K:Frag}{mg:PySem.Str->Option PySem.Value}{base:PySem.Heap}{fd gd cD lD nD sD rD pD tD mD wD eD aD uD gD bD hD iD dP dO dE dJ dG md:PySem.FuncData}{xs ys:List L2.V}{as:List PySem.Addr}{L:List (Option Nat)}{s:List Int}{ks:List Nat}
def top(i:Nat):Stmt:=PySem.Challenge.pw_printwell_k31_form.main.body.getD i (.Pass ⟨0,0,0,0⟩)
abbrev Gk:Stmt:=top 6
abbrev Gm:Stmt:=top 7
abbrev Gn:Stmt:=top 8
abbrev Gp:Stmt:=top 9
abbrev Gq:Stmt:=top 10
abbrev Gr:Stmt:=top 11
abbrev Gs:Stmt:=top 12
abbrev Gu:Stmt:=top 14
abbrev Gv:Stmt:=top 15
abbrev Gw:Stmt:=top 16
abbrev Gx:Stmt:=top 17
abbrev Br:Stmt:=top 21
abbrev Bs:Stmt:=top 22
abbrev Gy:Stmt:=top 24
abbrev Gz:Stmt:=top 25
abbrev GD:Stmt:=top 28
abbrev GK:Stmt:=top 29
abbrev GQ:Stmt:=top 30
abbrev GX:Stmt:=top 31
abbrev GZ:Stmt:=top 32
abbrev Hf:Stmt:=top 33
abbrev Hg:Stmt:=top 35
abbrev Hh:Stmt:=top 36
abbrev Bt:Stmt:=top 37
abbrev Bu:Stmt:=top 38
abbrev Hi:Stmt:=top 39
abbrev Hj:Stmt:=top 40
abbrev Hl:Stmt:=top 41
abbrev Ho:Stmt:=top 42
abbrev Hq:Stmt:=top 43
abbrev Hr:Stmt:=top 44
abbrev Hs:Stmt:=top 45
abbrev Ht:Stmt:=top 46
abbrev Hu:Stmt:=top 47
abbrev Hv:Stmt:=zk5 (top 13) 0
abbrev Hw:Stmt:=zk5 (top 13) 1
abbrev Hx:Stmt:=zk5 (top 13) 2
abbrev Hy:Stmt:=zk5 (top 20) 0
abbrev Hz:Stmt:=zk5 (top 20) 1
abbrev HB:Stmt:=zk5 (top 20) 2
abbrev HD:Stmt:=zk5 (top 20) 3
abbrev HF:Stmt:=zk5 (top 20) 4
abbrev HJ:Stmt:=zk5 (top 20) 5
abbrev HN:Stmt:=zk5 (top 20) 6
abbrev HS:Stmt:=zk5 (top 20) 7
abbrev HW:Stmt:=zk5 (top 23) 0
abbrev HX:Stmt:=zk5 (top 23) 1
abbrev HY:Stmt:=zk5 (top 23) 2
abbrev I0:Stmt:=zk5 (top 23) 3
abbrev vY:Stmt:=zk5 (top 23) 4
abbrev Bv:Stmt:=zk5 (top 23) 5
abbrev Ia:Stmt:=zk5 (top 23) 6
abbrev Bw:Stmt:=zk5 (top 23) 7
abbrev Ib:Stmt:=zk5 (top 23) 8
abbrev Ie:Stmt:=zk5 (top 23) 9
abbrev Ig:Stmt:=zk5 (top 23) 10
theorem By:cQ ["_law_script","_law_k"] ["_law_script","_law_k"] (cg Hg):=⟨rfl,rfl,rfl, ⋯,rfl, ⋯, ⋯⟩
theorem Bz(F:cA K "_law_cell" "_law_cell" Hg f fd)(ml:mg "len"=none):aH P w K mg base aB 1 f fd ["_law_script","_law_k"] (G5 K):=by
 refine F.cU By (λvs H Q E h=>?_) (λcdv A outer s H vs Q E hr h=>?_)
 ·obtain⟨a,ns,k,rfl,_⟩:=h
  rfl
 obtain⟨a,ns,k,rfl,hS,h63,q⟩:=h
 refine⟨_,au (cN (nY (a6 0) (λ_=>rfl)) (aL (bx (aF gK (a6 0) (bK jE (a6 1) (j4 pW rfl ml PySem.boot_len (aq (a6 0) a7))) (λ_ _=>rfl)))) cW)
  (aL (bx ak)),?_⟩
 refine⟨_,rfl,_,.inl ⟨_,hS,rfl⟩,?_⟩;cases ns with
 |nil=>exact aP (by simp) q
 |cons n r=>
  refine cG (by simp) ?_;have hl:(((n::r).map V.int).length:Int)=((n::r).length:Int):=by rw[length_map]
  have hp:(0:Int)<(((n::r).map V.int).length:Int):=by rw[hl,length_cons];omega
  refine⟨_,rfl,_,rfl,_,rfl,a,_,rfl,.inl hS,_,_,rfl,rfl,hp,a,_,_,_,rfl,rfl,hS,Ul (Int.emod_nonneg _ (by omega)) (by rw[<-hl];exact Int.emod_lt_of_pos _ hp),?_⟩;have e:cell (n::r) k=(n::r).getD (k % (((n::r).map V.int).length:Int)).toNat 0:=by rw[hl];rfl
  rw[<-e];exact q
theorem Ih:cQ ["_law_script","_law_k","_law_number"] ["_law_script","_law_k"] (cg Hh):=⟨rfl,rfl,rfl, ⋯,rfl, ⋯, ⋯⟩
theorem BA(F:cA K "_law_mix" "_law_mix" Hh f fd)(G:aH P w K mg base aB 1 g gd ["_law_script","_law_k"] (G5 K))(bG:Binds K gd ["_law_script","_law_k"] [])(kG:keepIn K (.ref g)=true)(mG:mg "_law_cell"=some (.ref g)):
  aH P w K mg base aB 2 f fd ["_law_script","_law_k"] (yJ K):=by
 refine F.cU Ih (λvs H Q E h=>?_) (λcdv A outer s H vs Q E hr h=>?_)
 ·obtain⟨a,ns,k,rfl,_⟩:=h
  rfl
 obtain⟨a,ns,k,rfl,hS,h63,q⟩:=h
 refine⟨_,au (aO (i:=2) Ih.nd rfl (Or.inl rfl) (bK jE (bK iQ (c9 G hr rfl mG kG bG .nil aU (aq (a6 0) (aq (a6 1) a7))) (bK u9 ak (bK iQ (a6 1) ak))) ak))
  (au (aO (i:=2) Ih.nd rfl (Or.inl rfl) (bK jE (bK u9 (a6 2) ak) ak))
  (aL (bx (bK jE (bK iQ (bK u9 (bK pP (a6 2) ak) ak) (a6 2)) ak)))),?_⟩
 refine⟨_,rfl,_,rfl,a,ns,k,rfl,hS,h63,_,rfl,_,_,rfl,rfl,_,_,rfl,rfl,.inl ⟨by decide,by decide⟩,_,_,rfl,rfl,_,_,rfl,rfl,(by show(0:Int)<4294967291;decide),?_⟩;refine⟨_,rfl,_,_,rfl,rfl,.inr ⟨by decide,by decide⟩,_,_,rfl,rfl,(by show(0:Int)<4294967279;decide),?_⟩;refine⟨_,rfl,_,_,rfl,rfl,⟨by decide,by decide⟩,_,_,rfl,rfl,.inr ⟨by decide,by decide⟩,_,rfl,_,_,rfl,rfl,_,_,rfl,rfl,(by show(0:Int)<4294967231;decide),?_⟩;exact q
open PySem
def zk8:Plan->Plan
 |.nest _ p=>zk8 p
 |.align p=>zk8 p
 |.flat p=>zk8 p
 |p=>p
def jf:Plan->Bool
 |.nest _ _=>false
 |.align _=>false
 |.flat _=>false
 |_=>true
theorem rW:∀p:Plan,jf (zk8 p)=true
 |.text _=>rfl
 |.line=>rfl
 |.cut=>rfl
 |.nest _ p=>rW p
 |.align p=>rW p
 |.flat p=>rW p
 |.beside _ _=>rfl
 |.choice _ _=>rfl
theorem BD:∀ {p:Plan},jf p=true->zk8 p=p
 |.text _,_=>rfl
 |.line,_=>rfl
 |.cut,_=>rfl
 |.beside _ _,_=>rfl
 |.choice _ _,_=>rfl
theorem rY:∀p:Plan,(zk8 p).deep<=p.deep
 |.text _=>le_refl _
 |.line=>le_refl _
 |.cut=>le_refl _
 |.nest _ p=>by have:=rY p;simp only[zk8,Plan.deep];omega
 |.align p=>by have:=rY p;simp only[zk8,Plan.deep];omega
 |.flat p=>by have:=rY p;simp only[zk8,Plan.deep];omega
 |.beside _ _=>le_refl _
 |.choice _ _=>le_refl _
def iH(p q:Plan):List Plan:=if zk8 p=zk8 q then[zk8 p] else[zk8 p,zk8 q]
def g8:Plan->List Plan
 |.beside p q=>iH p q
 |.choice p q=>iH p q
 |_=>[]
theorem BF(c:Plan):(g8 c).length<=2:=by
 cases c<;>simp only[g8,iH]<;>first|(split<;>simp)|simp
noncomputable def cO:Plan->List Plan
 |.nest _ p=>cO p
 |.align p=>cO p
 |.flat p=>cO p
 |.beside p q=>if zk8 p=zk8 q then cO p++[.beside p q] else cO p++(cO q++[.beside p q])
 |.choice p q=>if zk8 p=zk8 q then cO p++[.choice p q] else cO p++(cO q++[.choice p q])
 |p=>[p]
theorem vZ:∀p:Plan,cO (zk8 p)=cO p
 |.text _=>rfl
 |.line=>rfl
 |.cut=>rfl
 |.nest _ p=>vZ p
 |.align p=>vZ p
 |.flat p=>vZ p
 |.beside _ _=>rfl
 |.choice _ _=>rfl
theorem BG{c:Plan}(h:jf c=true):(cO c).reverse=c::((g8 c).reverse.flatMap λq=>(cO q).reverse):=by
 cases c with
 |text _=>rfl
 |line=>rfl
 |cut=>rfl
 |nest _ _=>cases h
 |align _=>cases h
 |flat _=>cases h
 |beside p q=>
  simp only[cO,g8,iH]
  split<;>simp[vZ]
 |choice p q=>
  simp only[cO,g8,iH]
  split<;>simp[vZ]
theorem oX:∀p:Plan,(cO p).length<=p.size/\1<=(cO p).length
 |.text _=>⟨le_refl _,le_refl _⟩
 |.line=>⟨le_refl _,le_refl _⟩
 |.cut=>⟨le_refl _,le_refl _⟩
 |.nest _ p=>by have:=oX p;simp only[cO,Plan.size];omega
 |.align p=>by have:=oX p;simp only[cO,Plan.size];omega
 |.flat p=>by have:=oX p;simp only[cO,Plan.size];omega
 |.beside p q=>by
  have:=oX p;have:=oX q;simp only[cO,Plan.size]
  split<;>simp only[length_append,length_cons,length_nil]<;>omega
 |.choice p q=>by
  have:=oX p;have:=oX q;simp only[cO,Plan.size]
  split<;>simp only[length_append,length_cons,length_nil]<;>omega
def oY(st:List Plan):List Plan:=st.flatMap λq=>(cO q).reverse
theorem BH{c:Plan}(h:jf c=true)(st:List Plan):oY (c::st)=c::oY ((g8 c).reverse++st):=by
 unfold oY;rw[flatMap_cons,BG h,flatMap_append];rfl
theorem BI{c:Plan}(h:q∈g8 c):jf q=true:=by
 cases c with
 |beside a b=>
  simp only[g8,iH] at h
  split at h
  ·simp at h;rw[h];exact rW _
  ·simp at h;rcases h with rfl|rfl<;>exact rW _
 |choice a b=>
  simp only[g8,iH] at h
  split at h
  ·simp at h;rw[h];exact rW _
  ·simp at h;rcases h with rfl|rfl<;>exact rW _
 |_=>cases h
theorem BM(st:List Plan):st.length<=(oY st).length:=by
 unfold oY
 induction st with
 |nil=>exact le_refl _
 |cons p st ih=>
  have:=(oX p).2;rw[flatMap_cons,length_append,length_reverse,length_cons];omega
noncomputable def jg(c:Plan)(s:List Plan):Option (List Plan):=match g8 c,s with
 |[],s=>some (c::s)
 |[a],x::r=>if x=a then some (c::r) else none
 |[a,b],y::x::r=>if x=a/\y=b then some (c::r) else none
 |_,_=>none
def iI:List Plan->List Plan->Option (List Plan)
 |[],s=>some s
 |c::r,s=>(jg c s).bind (iI r)
theorem qp:∀(a b s:List Plan),iI (a++b) s=(iI a s).bind (iI b)
 |[],b,s=>rfl
 |c::a,b,s=>by
  show(jg c s).bind (iI (a++b))=((jg c s).bind (iI a)).bind (iI b);cases jg c s with
  |none=>rfl
  |some s'=>exact qp a b s'
theorem o0:∀(p:Plan) (s:List Plan),iI (cO p) s=some (zk8 p::s)
 |.text _,s=>rfl
 |.line,s=>rfl
 |.cut,s=>rfl
 |.nest _ p,s=>o0 p s
 |.align p,s=>o0 p s
 |.flat p,s=>o0 p s
 |.beside p q,s=>by
  simp only[cO]
  split
  ·rename_i h
   rw[qp,o0 p];simp[iI,jg,g8,iH,h,zk8]
  ·rename_i h
   rw[qp,o0 p,Option.bind_some,qp,o0 q];simp[iI,jg,g8,iH,h,zk8]
 |.choice p q,s=>by
  simp only[cO]
  split
  ·rename_i h
   rw[qp,o0 p];simp[iI,jg,g8,iH,h,zk8]
  ·rename_i h
   rw[qp,o0 p,Option.bind_some,qp,o0 q];simp[iI,jg,g8,iH,h,zk8]
theorem BO(p:Plan)(i:Nat)(q:Plan)(h:(cO p)[i]? = some q):∃s s',iI ((cO p).take i) []=some s/\jg q s=some s'/\iI ((cO p).take (i+1)) []=some s':=by
 obtain⟨hi,e⟩:=List.getElem?_eq_some_iff.mp h;have e1:cO p=(cO p).take i++q::(cO p).drop (i+1):=by
  rw[<-e,<-drop_eq_getElem_cons hi,take_append_drop]
 have e2:iI (cO p) []=some [zk8 p]:=o0 p [];rw[e1,qp] at e2
 cases z:iI ((cO p).take i) [] with
 |none=>rw[z] at e2;cases e2
 |some s=>
  rw[z,Option.bind_some] at e2
  have e3:(jg q s).bind (iI ((cO p).drop (i+1)))=some [zk8 p]:=e2;cases z2:jg q s with
  |none=>rw[z2] at e3;cases e3
  |some s'=>
   refine⟨s,s',rfl,z2,?_⟩;have e4:(cO p).take (i+1)=(cO p).take i++[q]:=by rw[List.take_add_one,h];rfl
   rw[e4,qp,z,Option.bind_some];show(jg q s).bind (iI [])=_;rw[z2];rfl
theorem UJ:∀(l s s':List Plan),iI l s=some s'->s'.length<=l.length+s.length
 |[],s,s',h=>by cases h;simp
 |c::l,s,s',h=>by
  have h':(jg c s).bind (iI l)=some s':=h;cases z:jg c s with
  |none=>rw[z] at h';cases h'
  |some s1=>
   rw[z] at h'
   have i1:=UJ l s1 s' h';have i2:s1.length<=s.length+1:=by
    unfold jg at z
    split at z
    ·cases z;simp
    ·split at z
     ·cases z;simp
     ·cases z
    ·split at z
     ·cases z;simp
     ·cases z
    ·cases z
   simp only[length_cons];omega
noncomputable def dW:Plan->PyData
 |.text x=>.tuple [.str "text",.str (tx x)]
 |.line=>.tuple [.str "line"]
 |.cut=>.tuple [.str "cut"]
 |.nest n p=>.tuple [.str "nest",.int (n:Nat),dW p]
 |.align p=>.tuple [.str "align",dW p]
 |.flat p=>.tuple [.str "flat",dW p]
 |.beside p q=>.tuple [.str "beside",dW p,dW q]
 |.choice p q=>.tuple [.str "choice",dW p,dW q]
def Plan.Lay:Plan->Prop
 |.text t=>∀c∈t,c<1114112
 |.line=>True|.cut=>True
 |.nest _ p=>p.Lay|.align p=>p.Lay|.flat p=>p.Lay
 |.beside p q=>p.Lay/\q.Lay
 |.choice p q=>p.Lay/\q.Lay
theorem o3:∀ {p:Plan},p.Lay->(zk8 p).Lay
 |.text _,h=>h
 |.line,h=>h
 |.cut,h=>h
 |.nest _ p,h=>o3 (p:=p) h
 |.align p,h=>o3 (p:=p) h
 |.flat p,h=>o3 (p:=p) h
 |.beside _ _,h=>h
 |.choice _ _,h=>h
theorem o4:∀p:Plan,p.Lay->(dW p).canLay0=true
 |.text x,h=>by
  have:PyData.strOk (tx x)=true:=by
   unfold PyData.strOk tx;simp only[List.all_toArray,List.all_eq_true];intro c hc;exact decide_eq_true (h c hc)
  simp[dW,PyData.canLay0,PyData.canLayAll0,this];decide +kernel
 |.line,_=>by simp[dW,PyData.canLay0,PyData.canLayAll0];decide +kernel
 |.cut,_=>by simp[dW,PyData.canLay0,PyData.canLayAll0];decide +kernel
 |.nest n p,h=>by simp[dW,PyData.canLay0,PyData.canLayAll0,o4 p h];decide +kernel
 |.align p,h=>by simp[dW,PyData.canLay0,PyData.canLayAll0,o4 p h];decide +kernel
 |.flat p,h=>by simp[dW,PyData.canLay0,PyData.canLayAll0,o4 p h];decide +kernel
 |.beside p q,h=>by simp[dW,PyData.canLay0,PyData.canLayAll0,o4 p h.1,o4 q h.2];decide +kernel
 |.choice p q,h=>by simp[dW,PyData.canLay0,PyData.canLayAll0,o4 p h.1,o4 q h.2];decide +kernel
theorem qt:∀p:Plan,(dW p).depth<=p.deep+1
 |.text x=>by simp[dW,PyData.depth,PyData.depthAll,Plan.deep]
 |.line=>by simp[dW,PyData.depth,PyData.depthAll,Plan.deep]
 |.cut=>by simp[dW,PyData.depth,PyData.depthAll,Plan.deep]
 |.nest n p=>by have:=qt p;simp[dW,PyData.depth,PyData.depthAll,Plan.deep];omega
 |.align p=>by have:=qt p;simp[dW,PyData.depth,PyData.depthAll,Plan.deep];omega
 |.flat p=>by have:=qt p;simp[dW,PyData.depth,PyData.depthAll,Plan.deep];omega
 |.beside p q=>by have:=qt p;have:=qt q;simp[dW,PyData.depth,PyData.depthAll,Plan.deep];omega
 |.choice p q=>by have:=qt p;have:=qt q;simp[dW,PyData.depth,PyData.depthAll,Plan.deep];omega
noncomputable def w8:Plan->Str
 |.text _=>"text"
 |.line=>"line"
 |.cut=>"cut"
 |.nest _ _=>"nest"
 |.align _=>"align"
 |.flat _=>"flat"
 |.beside _ _=>"beside"
 |.choice _ _=>"choice"
def rZ:Plan->Nat
 |.text _=>0|.line=>1|.cut=>2|.nest _ _=>3|.align _=>4|.flat _=>5|.beside _ _=>6|.choice _ _=>7
noncomputable def UL:List Str:=["text","line","cut","nest","align","flat","beside","choice"]
theorem UW:UL.Nodup:=by decide +kernel
theorem V0(p:Plan):UL[rZ p]? = some (w8 p):=by cases p<;>rfl
theorem BQ (h:rZ p≠rZ q):w8 p≠w8 q:=λe=>by
 obtain⟨h1,e1⟩:=List.getElem?_eq_some_iff.mp (V0 p);obtain⟨h2,e2⟩:=List.getElem?_eq_some_iff.mp (V0 q);rcases Nat.lt_or_gt_of_ne h with z|z
 ·exact List.pairwise_iff_getElem.mp UW _ _ h1 h2 z (by rw[e1,e2,e])
 ·exact List.pairwise_iff_getElem.mp UW _ _ h2 h1 z (by rw[e1,e2,e])
theorem V1(p:Plan):∃ds,dW p=.tuple (.str (w8 p)::ds):=by cases p<;>exact⟨_,rfl⟩
theorem BU (h:rZ p≠rZ q):PyData.eqv (dW p) (dW q)=false:=by
 obtain⟨ds,e⟩:=V1 p;obtain⟨es,e'⟩:=V1 q;rw[e,e'];have:(w8 p==w8 q)=false:=beq_eq_false_iff_ne.mpr (BQ h);simp[PyData.eqv,PyData.eqvAll,this]
theorem w9 : ∀ p q : Plan, PyData.eqv (dW p) (dW q) = decide (p = q) := λp q => by
  by_cases h : rZ p = rZ q
  · cases p <;> cases q <;> first
      | (exfalso; revert h; simp only [rZ]; intro h; omega; done)
      | (rename_i x y
         by_cases e : x = y
         · subst e; simp [dW, PyData.eqv, PyData.eqvAll]
         · have : ¬ tx x = tx y := λz => e (Uc z)
           simp [dW, PyData.eqv, PyData.eqvAll, e, this])
      | (simp [dW, PyData.eqv, PyData.eqvAll]; done)
      | (rename_i n p m q
         have ih := w9 p q;have en : (((n : Nat) : Int) == ((m : Nat) : Int)) = decide (n = m) := by
           by_cases e : n = m
           · subst e; simp
           · rw [decide_eq_false e, beq_eq_false_iff_ne]; omega
         simp [dW, PyData.eqv, PyData.eqvAll, ih, en, Bool.decide_and]; done)
      | (rename_i p q
         have ih := w9 p q
         simp [dW, PyData.eqv, PyData.eqvAll, ih]; done)
      | (rename_i p1 p2 q1 q2
         have ih1 := w9 p1 q1;have ih2 := w9 p2 q2
         simp [dW, PyData.eqv, PyData.eqvAll, ih1, ih2, Bool.decide_and]; done)
  · rw [BU h]
    exact (decide_eq_false λe => h (by rw [e])).symm
abbrev cM(H:Hp):List Addr->List Plan->Prop:=Paired λa p=>aZ H p a
theorem cM.mono{H H':Hp}(h:bQ H H'){as:List Addr}{ps:List Plan}(r:cM H as ps):cM H' as ps:=Paired.gJ r λ_ _ e=>e.mono h
theorem cM.take{H:Hp}:∀ {as:List Addr} {ps:List Plan} (k:Nat),cM H as ps->cM H (as.take k) (ps.take k)
 |_,_,0,_=>by rw[take_zero,take_zero];exact .nil
 |_,_,k+1,.nil=>by rw[take_nil,take_nil];exact .nil
 |_,_,k+1,.cons r t=>.cons r (cM.take k t)
theorem cM.drop{H:Hp}:∀ {as:List Addr} {ps:List Plan} (k:Nat),cM H as ps->cM H (as.drop k) (ps.drop k)
 |_,_,0,h=>h
 |_,_,k+1,.nil=>by rw[List.drop_nil,List.drop_nil];exact .nil
 |_,_,k+1,.cons _ t=>cM.drop k t
theorem cM.get{H:Hp}:∀ {as:List Addr} {ps:List Plan} {i:Nat} {v:V},cM H as ps->(as.map V.ref)[i]? = some v->∃a p,v=.ref a/\as[i]? = some a/\ps[i]? = some p/\aZ H p a
 |_,_,_,_,.nil,e=>by simp at e
 |_,_,0,_,.cons r _,e=>by simp at e;subst e;exact⟨_,_,rfl,rfl,rfl,r⟩
 |_,_,i+1,v,.cons _ t,e=>by
  obtain⟨a,row,h1,h2,h3,h4⟩:=cM.get (i:=i) (v:=v) t (by simpa using e);exact⟨a,row,h1,by simpa using h2,by simpa using h3,h4⟩
theorem cM.append{H:Hp}:∀ {as bs:List Addr} {ps qs:List Plan},cM H as ps->cM H bs qs->cM H (as++bs) (ps++qs)
 |_,_,_,_,.nil,s=>s
 |_,_,_,_,.cons r t,s=>.cons r (cM.append t s)
theorem nA   (h:cM H as ps):as.length=ps.length:=Paired.length h
theorem aZ.dv{H:Hp}:∀ {p:Plan} {r:Addr},aZ H p r->DV H (.ref r) (dW p)
 |.text _,_,e=>.tup e (.cons (.str _) (.cons (.str _) .nil))
 |.line,_,e=>.tup e (.cons (.str _) .nil)
 |.cut,_,e=>.tup e (.cons (.str _) .nil)
 |.nest _ _,_,⟨_,e,q⟩=>.tup e (.cons (.str _) (.cons (.int _) (.cons (aZ.dv q) .nil)))
 |.align _,_,⟨_,e,q⟩=>.tup e (.cons (.str _) (.cons (aZ.dv q) .nil))
 |.flat _,_,⟨_,e,q⟩=>.tup e (.cons (.str _) (.cons (aZ.dv q) .nil))
 |.beside _ _,_,⟨_,_,e,q,q'⟩=>.tup e (.cons (.str _) (.cons (aZ.dv q) (.cons (aZ.dv q') .nil)))
 |.choice _ _,_,⟨_,_,e,q,q'⟩=>.tup e (.cons (.str _) (.cons (aZ.dv q) (.cons (aZ.dv q') .nil)))
def wg(H:Hp)(t:Addr)(c:Plan):Prop:=∃a,H t=some (.tup [.ref a,.int ((g8 c).length:Nat)])/\aZ H c a
abbrev k7(H:Hp):List Addr->List Plan->Prop:=Paired (wg H)
theorem wg.mono{H H':Hp}(h:bQ H H'){t:Addr}{c:Plan}:wg H t c->wg H' t c:=λ⟨a,e,q⟩=>⟨a,h _ _ e,q.mono h⟩
theorem k7.mono{H H':Hp}(h:bQ H H'){ts:List Addr}{cs:List Plan}(r:k7 H ts cs):k7 H' ts cs:=Paired.gJ r λ_ _ e=>e.mono h
theorem k7.get{H:Hp}:∀ {as:List Addr} {ps:List Plan} {i:Nat} {v:V},k7 H as ps->(as.map V.ref)[i]? = some v->∃a p,v=.ref a/\ps[i]? = some p/\wg H a p
 |_,_,_,_,.nil,e=>by simp at e
 |_,_,0,_,.cons r _,e=>by simp at e;subst e;exact⟨_,_,rfl,rfl,r⟩
 |_,_,i+1,v,.cons _ t,e=>by
  obtain⟨a,row,h1,h2,h3⟩:=k7.get (i:=i) (v:=v) t (by simpa using e);exact⟨a,row,h1,by simpa using h2,h3⟩
theorem Bx{α β:Type}{R:α->β->Prop}{as:List α}{bs:List β}(h:Paired R as bs):Paired R as.reverse bs.reverse:=by
 induction h with
 |nil=>exact .nil
 |cons e t ih=>rw[reverse_cons,reverse_cons];exact iU ih (.cons e .nil)
inductive yU(vs:List V)(H:Hp)(Q:VK)(E':XK):Prop
 |mk (r:Addr) (p:Plan) (z0:vs=[.ref r]) (z1:aZ H p r) (z2:∀(r':Addr) (H':Hp),Same H H'->aZ H' (grp p) r'->Q (.ref r') H'):yU vs H Q E'
def uI:Nat->Sp
 |0=>λ_ _ _ _=>False
 |n+1=>λvs H Q _=>∃(l:Addr) (as:List Addr) (ps:List Plan),vs=[.ref l]/\H l=some (.lst (as.map V.ref))/\cM H as ps/\ps.length<=n+1/\ps.length<=1000/\∀(r:Addr) (H':Hp),Same H H'->aZ H' (jn (n+1) ps) r->Q (.ref r) H'
theorem BV(xs:List V)(k:Nat):iT xs none (some (k:Int))=xs.take k:=by
 unfold iT;have e1:HT.cT xs.length 0 none=0:=HT.Ew _ _;have e2:HT.cT xs.length xs.length (some (k:Int))=min k xs.length:=HT.Ez _ _ _;rw[e1,e2,List.drop_zero,Nat.sub_zero]
 by_cases h:k<=xs.length
 ·rw[Nat.min_eq_left h]
 ·rw[Nat.min_eq_right (by omega),take_length,List.take_of_length_le (by omega)]
theorem Ii(xs:List V)(k:Nat):iT xs (some (k:Int)) none=xs.drop k:=by
 unfold iT;have e1:HT.cT xs.length 0 (some (k:Int))=min k xs.length:=HT.Ez _ _ _;have e2:HT.cT xs.length xs.length none=xs.length:=HT.Ew _ _;rw[e1,e2]
 by_cases h:k<=xs.length
 ·rw[Nat.min_eq_left h,List.take_of_length_le (by rw[length_drop];omega)]
 ·rw[Nat.min_eq_right (by omega),Nat.sub_self,take_zero,List.drop_eq_nil_of_le (by omega)]
theorem Cb:cQ ["plan"] ["plan"] (cg Gk):=⟨rfl,rfl,rfl, ⋯,rfl, ⋯, ⋯⟩
theorem Ct(F:cA K "group" "group" Gk f fd):aH P w K mg base aB 1 f fd ["plan"] yU:=by
 refine F.cU Cb (λvs H Q E h=>?_) (λcdv A outer s H vs Q E hr h=>?_)
 ·obtain⟨r,p,rfl,_⟩:=h
  rfl
 obtain⟨r,p,rfl,hP,q⟩:=h;refine⟨_,aL (bx (bf (aM aK (d0 (bf (aM aK (aq (a6 0) a7))) (aq (a6 0) a7))))),?_⟩;refine⟨_,rfl,aC,λp1 hp1=>⟨_,rfl,aC,λp2 hp2=>?_⟩⟩;have s1:=ao hp1 (.tup [.str "flat",.ref r])
 have s2:=ao hp2 (.tup [.str "choice",.ref p1,.ref r])
 exact q p2 _ (s1.trans s2) ⟨p1,r,a8,⟨r,s2 _ _ a8,hP.mono (.of (s1.trans s2))⟩,hP.mono (.of (s1.trans s2))⟩
theorem V2:cQ ["plans","middle"] ["plans"] (cg Gm):=⟨rfl,rfl,rfl, ⋯,rfl, ⋯, ⋯⟩
theorem CA (F:cA K "joined" "joined" Gm f fd)(mF:mg "joined"=some (.ref f))(bF:Binds K fd ["plans"] [])(ml:mg "len"=none)
  (G:aH P w K mg base aB n f fd ["plans"] (uI n)):aH P w K mg base aB (n+1) f fd ["plans"] (uI (n+1)):=by
 refine F.cU V2 (λvs H Q E h=>?_) (λcdv A outer s H vs Q E hr h=>?_)
 ·obtain⟨l,as,ps,rfl,_⟩:=h
  rfl
 obtain⟨l,as,ps,rfl,hl,hP,hn,hk,q⟩:=h;have nd:=V2.nd;have hlen:=nA hP;have hml:(as.map V.ref).length=ps.length:=by rw[length_map,hlen]
 refine⟨_,au (cN (Fz (nY (a6 0) (λ_=>rfl))) (aL (bx (bf (aM aK (aM aK a7))))) cW)<|
  au (cN (cI d8 (j4 pW rfl ml PySem.boot_len (aq (a6 0) a7)) ak (cP _)) (aL (bx (aF gK (a6 0) ak (λ_ _=>rfl)))) cW)<|
  au (aO (i:=1) nd rfl (Or.inl rfl) (bK pP (j4 pW rfl ml PySem.boot_len (aq (a6 0) a7)) ak))<|
  aL (bx (bf (aM aK (dw (c9 G hr rfl mF F.kp bF .nil aU (cF (yF B6 (a6 0) yq (yE (a6 1))) a7))
   (dw (c9 G hr rfl mF F.kp bF .nil aU (cF (yF B6 (a6 0) (yE (a6 1)) yq) a7)) a7))))),?_⟩
 refine⟨_,rfl,_,.inl ⟨_,aG.of hl,rfl⟩,?_⟩;cases hP with
 |nil=>
  refine cG (by simp) ?_;refine⟨aC,λp hp=>q p _ (ao hp _) ?_⟩;show _=some (HO.tup [.str "text",.str (tx [])])
  rw[<-qg];exact a8
 |@cons a p as ps hp hrest=>
  refine aP (by simp) ?_;refine⟨_,rfl,l,_,rfl,.inl (aG.of hl),rfl,_,rfl,?_⟩;cases hrest with
  |nil=>
   refine cG (decide_eq_true rfl) ?_;exact⟨_,rfl,l,_,_,.ref a,rfl,rfl,aG.of hl,rfl,q a H (λ_ _ e=>e) hp⟩
  |@cons b p2 as ps hp2 hrest=>
   refine aP (λz=>?_) ?_
   ·have z1:=V.int.inj (of_decide_eq_true z)
    simp at z1
    omega
   have HP:cM H (a::b::as) (p::p2::ps):=.cons hp (.cons hp2 hrest);have h2:2<=(p::p2::ps).length:=by simp
   generalize ha:a::b::as=cs at*
   generalize hq:p::p2::ps=qs at*
   have hn0:1<=n:=by omega
   obtain⟨m,rfl⟩:∃m,n=m+1:=⟨n - 1,by omega⟩;refine⟨_,rfl,l,_,rfl,.inl (aG.of hl),_,_,rfl,rfl,⟨by decide,by decide⟩,?_⟩;have V3:(((cs.map V.ref).length:Nat):Int) / 2=((qs.length / 2:Nat):Int):=by rw[hml];omega
   refine⟨_,rfl,_,rfl,_,rfl,l,_,rfl,aG.of hl,λl1 hl1=>?_⟩;have s1:=ao hl1 (.lst (iT (cs.map V.ref) none (some ((((cs.map V.ref).length:Nat):Int) / 2))));have c1:iT (cs.map V.ref) none (some ((((cs.map V.ref).length:Nat):Int) / 2))=(cs.take (qs.length / 2)).map V.ref:=by rw[V3,BV,List.map_take]
   refine⟨l1,cs.take (qs.length / 2),qs.take (qs.length / 2),rfl,by rw[a8,c1],(cM.take _ HP).mono (.of s1),by rw[length_take];omega,by rw[length_take];omega,λr1 H1 t1 P1=>?_⟩;have yw:=s1.trans t1;refine⟨_,rfl,_,rfl,_,rfl,l,_,rfl,aG.of (yw _ _ hl),λl2 hl2=>?_⟩;have s2:=ao hl2 (.lst (iT (cs.map V.ref) (some ((((cs.map V.ref).length:Nat):Int) / 2)) none));have c2:iT (cs.map V.ref) (some ((((cs.map V.ref).length:Nat):Int) / 2)) none=(cs.drop (qs.length / 2)).map V.ref:=by rw[V3,Ii,List.map_drop]
   refine⟨l2,cs.drop (qs.length / 2),qs.drop (qs.length / 2),rfl,by rw[a8,c2],(cM.drop _ HP).mono (.of (yw.trans s2)),by rw[length_drop];omega,by rw[length_drop];omega,λr2 H2 t2 P2=>?_⟩;refine⟨aC,λp3 hp3=>?_⟩;have s3:=ao hp3 (.tup [.str "beside",.ref r1,.ref r2])
   refine q p3 _ (yw.trans (s2.trans (t2.trans s3))) ?_;rw[rO (m+1) h2];exact⟨r1,r2,a8,P1.mono (.of (s2.trans (t2.trans s3))),P2.mono (.of s3)⟩
inductive Tr where
 |name (s:List Nat)|num (n:Nat)
 |call (s:List Nat) (ts:List Tr)|row (ts:List Tr)
 |bin (op:Nat) (a b:Tr)
variable {t:Tr}
namespace Tr
mutual
def size:Tr->Nat
 |name _=>1|num _=>1
 |call _ ts=>sizes ts+1|row ts=>sizes ts+1
 |bin _ a b=>size a+size b+1
def sizes:List Tr->Nat
 |[]=>0
 |t::ts=>size t+sizes ts
end
mutual
def deep:Tr->Nat
 |name _=>0|num _=>0
 |call _ ts=>eN ts+1|row ts=>eN ts+1
 |bin _ a b=>max (deep a) (deep b)+1
def eN:List Tr->Nat
 |[]=>0
 |t::ts=>max (deep t) (eN ts)
end
end Tr
noncomputable def names5:List (List Nat):=[[97],[98],[120,121,122],[102],[97,98,99,100,101,102,103,104,105,106,107,108,109]]
noncomputable def yV:List (List Nat):=[[102],[103,103],[112,114,105,110,116]]
def qu:List Nat:=[43,45,42,42]
noncomputable def k8(m:Int):Tr:=
 if m / 8 % 2=0 then .name (names5.getD (m / 16 % 5).toNat []) else if m / 16 % 3=0 then .num 0 else if m / 16 % 3=1 then .num 7 else .num (m / 40 % 100000000000).toNat
noncomputable def zk7(ns:List Int)(most:Nat):Nat->Int->Tr
 |0,k=>k8 (mix ns k)
 |d+1,k=>
  if mix ns k % 8=0 then k8 (mix ns k)
  else if mix ns k % 8<4 then
   (if mix ns k % 8<3 then .call (yV.getD (mix ns k / 64 % 3).toNat []) ((List.range (mix ns k / 8 % ((most:Int)+1)).toNat).map λj:Nat=>zk7 ns most d (4*k+1+(0+(j:Int))))
    else .row ((List.range (mix ns k / 8 % ((most:Int)+1)).toNat).map λj:Nat=>zk7 ns most d (4*k+1+(0+(j:Int)))))
  else .bin (qu.getD (mix ns k % 8 - 4).toNat 0) (zk7 ns most d (4*k+1)) (zk7 ns most d (4*k+2))
theorem V4(m:Int):(k8 m).deep=0:=by
 unfold k8
 repeat' split
 all_goals rfl
theorem V5(D:Nat):∀ts:List Tr,(∀t∈ts,t.deep<=D)->Tr.eN ts<=D
 |[],_=>zero_le _
 |t::ts,h=>by
  have h1:=h t mem_cons_self;have h2:=V5 D ts λx hx=>h x (mem_cons_of_mem _ hx)
  show max t.deep (Tr.eN ts)<=D;omega
theorem yW(ns:List Int)(most:Nat):∀(d:Nat) (k:Int),(zk7 ns most d k).deep<=d
 |0,k=>le_of_eq (V4 _)
 |d+1,k=>by
  have all:∀t∈(List.range (mix ns k / 8 % ((most:Int)+1)).toNat).map (λj:Nat=>zk7 ns most d (4*k+1+(0+(j:Int)))),t.deep<=d:=λt ht=>by
   obtain⟨j,_,rfl⟩:=List.mem_map.mp ht;exact yW ns most d _
  have h1:=V5 d _ all;have h2:=yW ns most d (4*k+1);have h3:=yW ns most d (4*k+2);unfold zk7
  split
  ·rw[V4];omega
  ·split
   ·split
    ·show Tr.eN _+1<=_;omega
    ·show Tr.eN _+1<=_;omega
   ·show max _ _+1<=_;omega
def lR(n:Nat):List Nat:=(Nat.toDigits 10 n).map Char.toNat
mutual
def dh(H:Hp):Tr->Addr->Prop
 |.name s,r=>H r=some (.tup [.str "name",.str (tx s)])
 |.num n,r=>H r=some (.tup [.str "number",.int (n:Nat)])
 |.call s ts,r=>∃l as,H r=some (.tup [.str "call",.str (tx s),.ref l])/\H l=some (.tup (as.map V.ref))/\dZ H ts as
 |.row ts,r=>∃l as,H r=some (.tup [.str "row",.ref l])/\H l=some (.tup (as.map V.ref))/\dZ H ts as
 |.bin op a b,r=>∃x y,H r=some (.tup [.str (tx [op]),.ref x,.ref y])/\dh H a x/\dh H b y
def dZ(H:Hp):List Tr->List Addr->Prop
 |[],as=>as=[]
 |t::ts,as=>∃a rest,as=a::rest/\dh H t a/\dZ H ts rest
end
mutual
theorem dh.mono{H H':Hp}(h:bQ H H'):∀ {t:Tr} {r:Addr},dh H t r->dh H' t r
 |.name _,_,e=>h _ _ e
 |.num _,_,e=>h _ _ e
 |.call _ _,_,⟨l,as,e,e2,q⟩=>⟨l,as,h _ _ e,h _ _ e2,dZ.mono h q⟩
 |.row _,_,⟨l,as,e,e2,q⟩=>⟨l,as,h _ _ e,h _ _ e2,dZ.mono h q⟩
 |.bin _ _ _,_,⟨x,y,e,q,q'⟩=>⟨x,y,h _ _ e,dh.mono h q,dh.mono h q'⟩
theorem dZ.mono{H H':Hp}(h:bQ H H'):∀ {ts:List Tr} {as:List Addr},dZ H ts as->dZ H' ts as
 |[],_,e=>e
 |_::_,_,⟨a,rest,e,q,q'⟩=>⟨a,rest,e,dh.mono h q,dZ.mono h q'⟩
end
theorem dZ.len{H:Hp}:∀ {ts:List Tr} {as:List Addr},dZ H ts as->as.length=ts.length
 |[],_,e=>by rw[show _=[] from e];rfl
 |_::_,_,⟨a,rest,e,_,q'⟩=>by rw[e,length_cons,length_cons,dZ.len q']
theorem dZ.snoc{H:Hp}{t:Tr}{a:Addr}:∀ {ts:List Tr} {as:List Addr},dZ H ts as->dh H t a->dZ H (ts++[t]) (as++[a])
 |[],as,e,q=>by
  have e':as=[]:=e;subst e';exact⟨a,[],rfl,q,rfl⟩
 |_::_,_,⟨b,rest,e,q1,q2⟩,q=>by
  subst e;exact⟨b,rest++[a],rfl,q1,dZ.snoc q2 q⟩
theorem dZ.get{H:Hp}:∀ {ts:List Tr} {as:List Addr} {i:Nat} {t:Tr},dZ H ts as->ts[i]? = some t->∃a,as[i]? = some a/\dh H t a
 |[],_,_,_,_,e=>by simp at e
 |_::_,_,0,_,⟨b,rest,e,q1,_⟩,et=>by
  subst e;have CD:=Option.some.inj (show some _=some _ from et);subst CD;exact⟨b,rfl,q1⟩
 |_::ts,_,i+1,t,⟨b,rest,e,_,q2⟩,et=>by
  subst e;exact dZ.get (ts:=ts) (as:=rest) (i:=i) (t:=t) q2 (by simpa using et)
abbrev oZ:List Str:=["_law_script","_law_k","_law_deep","_law_most"]
def wj(K:Frag)(most:Nat):Nat->Sp
 |0=>λ_ _ _ _=>False
 |d+1=>λvs H Q _=>∃(a:Addr) (ns:List Int) (k:Int),vs=[.ref a,.int k,.int d,.int (most:Nat)]/\aG K H a (ns.map V.int)/\ns.length<=63/\∀(r:Addr) (H':Hp),Same H H'->dh H' (zk7 ns most d k) r->Q (.ref r) H'
theorem CF:([Str.ofString "a",Str.ofString "b",Str.ofString "xyz",Str.ofString "f",Str.ofString "abcdefghijklm"]:List Str)=names5.map tx:=by decide +kernel
theorem CH:([Str.ofString "f",Str.ofString "gg",Str.ofString "print"]:List Str)=yV.map tx:=by decide +kernel
theorem CI:([Str.ofString "+",Str.ofString "-",Str.ofString "*",Str.ofString "*"]:List Str)=qu.map (λc=>tx [c]):=by decide +kernel
theorem V6{xs:List Str}{ts:List (List Nat)}(e:xs=ts.map tx){i:Int}(h0:0<=i)(h1:i<(ts.length:Int)):dN (xs.map V.str) i=some (.str (tx (ts.getD i.toNat []))):=by
 subst e;have hk:i.toNat<ts.length:=by omega
 refine yK h0 ?_;rw[getElem?_map,getElem?_map,getElem?_eq_getElem hk,getD_eq_getElem?_getD,getElem?_eq_getElem hk];rfl
theorem CM{i:Int}(h0:0<=i)(h1:i<4):dN ([V.str "+",V.str "-",V.str "*",V.str "*"]) i=some (.str (tx [qu.getD i.toNat 0])):=by
 have e:([V.str "+",V.str "-",V.str "*",V.str "*"]:List V)=(qu.map λc=>tx [c]).map V.str:=by rw[<-CI];rfl
 have hk:i.toNat<qu.length:=by show i.toNat<4;omega
 rw[e];refine yK h0 ?_;rw[getElem?_map,getElem?_map,getElem?_eq_getElem hk,getD_eq_getElem?_getD,getElem?_eq_getElem hk];rfl
def fK(op:Nat):Nat:=if op=42 then 2 else 1
def gU:Tr->Option Nat
 |.bin op _ _=>some (fK op)
 |_=>none
def bare(k:Nat)(t:Tr):Bool:=decide (k<(gU t).getD (k+1))
noncomputable def f7(J:List Plan->Plan)(k:Nat)(t:Tr)(p:Plan):Plan:=if bare k t then p else J [.text [40],.align p,.text [41]]
def gk:List Plan->List Plan
 |[]=>[]
 |p::ps=>.cut::p::ps.flatMap λq=>[.text [44],.line,q]
noncomputable def iJ(J:List Plan->Plan)(o:List Nat)(ps:List Plan)(c:List Nat):Plan:=
 if ps.isEmpty then .text (o++c) else grp (J [.text o,.nest 2 (J (gk ps)),.cut,.text c])
mutual
def bV(J:List Plan->Plan):Tr->Plan×(Plan×List Plan)
 |.name s=>(.text s,.text s,[])
 |.num n=>(.text (lR n),.text (lR n),[])
 |.call s ts=>(iJ J (s++[40]) (dH J ts) [41],.text [],[])
 |.row ts=>(iJ J [91] (dH J ts) [93],.text [],[])
 |.bin op a b=>
  let c:=if gU a=some (fK op) then(bV J a).2 else(f7 J (fK op) a (bV J a).1,[])
  let l:=c.2++[.line,.text [op,32],f7 J (fK op) b (bV J b).1]
  (grp (J [c.1,.nest 2 (J l)]),c.1,l)
def dH(J:List Plan->Plan):List Tr->List Plan
 |[]=>[]
 |t::ts=>(bV J t).1::dH J ts
end
def bh(J:List Plan->Plan)(t:Tr):Plan:=(bV J t).1
noncomputable def bZ(J:List Plan->Plan)(op:Nat)(a:Tr):Plan×List Plan:=if gU a=some (fK op) then(bV J a).2 else(f7 J (fK op) a (bh J a),[])
noncomputable def dj(J:List Plan->Plan)(op:Nat)(b:Tr):List Plan:=[.line,.text [op,32],f7 J (fK op) b (bh J b)]
theorem p7(J:List Plan->Plan)(op:Nat)(a b:Tr):bV J (.bin op a b)=(grp (J [(bZ J op a).1,.nest 2 (J ((bZ J op a).2++dj J op b))]),(bZ J op a).1,(bZ J op a).2++dj J op b):=by
 rw[bV];rfl
theorem jO(J:List Plan->Plan):∀ts:List Tr,dH J ts=ts.map (bh J)
 |[]=>by rw[dH];rfl
 |t::ts=>by rw[dH,jO J ts];rfl
def aY:List Plan->Plan
 |[]=>.text []
 |p::ps=>ps.foldl Plan.beside p
inductive Pw{α β:Type}(R:α->β->Prop):List α->List β->Prop
 |nil:Pw R [] []
 |cons {a:α} {b:β} {as:List α} {bs:List β}:R a b->Pw R as bs->Pw R (a::as) (b::bs)
theorem Pw.len{α β:Type}{R:α->β->Prop}:∀ {as:List α} {bs:List β},Pw R as bs->as.length=bs.length
 |_,_,.nil=>rfl
 |_,_,.cons _ t=>congrArg Nat.succ t.len
theorem Pw.app{α β:Type}{R:α->β->Prop}:∀ {as:List α} {bs:List β} {cs:List α} {ds:List β},Pw R as bs->Pw R cs ds->Pw R (as++cs) (bs++ds)
 |_,_,_,_,.nil,q=>q
 |_,_,_,_,.cons r t,q=>.cons r (t.app q)
structure b9(p q:Plan):Prop where
 sd:p.sides=q.sides
 ly:∀b t m f,lay p b t m f=lay q b t m f
theorem b9.refl(p:Plan):b9 p p:=⟨rfl,λ_ _ _ _=>rfl⟩
theorem b9.symm{p q:Plan}(h:b9 p q):b9 q p:=⟨h.sd.symm,λb t m f=>(h.ly b t m f).symm⟩
theorem b9.trans{p q r:Plan}(h:b9 p q)(k:b9 q r):b9 p r:=⟨h.sd.trans k.sd,λb t m f=>(h.ly b t m f).trans (k.ly b t m f)⟩
theorem b9.nest{p q:Plan}(n:Nat)(h:b9 p q):b9 (.nest n p) (.nest n q):=⟨h.sd,λb t m f=>h.ly b t (m+n) f⟩
theorem b9.align{p q:Plan}(h:b9 p q):b9 (.align p) (.align q):=⟨h.sd,λb t _ f=>h.ly b t (col t) f⟩
theorem b9.flat{p q:Plan}(h:b9 p q):b9 (.flat p) (.flat q):=⟨h.sd,λb t m _=>h.ly b t m true⟩
theorem b9.beside{p q p' q':Plan}(h:b9 p p')(k:b9 q q'):b9 (.beside p q) (.beside p' q'):=by
 refine⟨?_,λb t m f=>?_⟩
 ·show(p.sides.flatMap λr=>q.sides.map λm=>r++m)=p'.sides.flatMap λr=>q'.sides.map λm=>r++m
  rw[h.sd,k.sd]
 ·show(lay p b t m f).bind (λr=>lay q r.2 r.1 m f)=(lay p' b t m f).bind λr=>lay q' r.2 r.1 m f
  rw[h.ly];cases lay p' b t m f with
  |none=>rfl
  |some x=>exact k.ly _ _ _ _
theorem b9.choice{p q p' q':Plan}(h:b9 p p')(k:b9 q q'):b9 (.choice p q) (.choice p' q'):=by
 refine⟨?_,λb t m f=>?_⟩
 ·show p.sides.map (λr=>0::r)++q.sides.map (λr=>1::r)=p'.sides.map (λr=>0::r)++q'.sides.map λr=>1::r
  rw[h.sd,k.sd]
 ·cases b with
  |nil=>rfl
  |cons x b=>
   show(if x=0 then lay p b t m f else if x=1 then lay q b t m f else none)=if x=0 then lay p' b t m f else if x=1 then lay q' b t m f else none
   rw[h.ly,k.ly]
theorem b9.assoc(p q r:Plan):b9 (.beside (.beside p q) r) (.beside p (.beside q r)):=by
 refine⟨?_,λb t m f=>?_⟩
 ·show((p.sides.flatMap λx=>q.sides.map λy=>x++y).flatMap λx=>r.sides.map λy=>x++y)=p.sides.flatMap λx=>(q.sides.flatMap λy=>r.sides.map λz=>y++z).map λy=>x++y
  simp only[List.flatMap_assoc,List.map_flatMap,List.flatMap_map,map_map];refine FW λx _=>FW λy _=>?_
  refine map_congr_left λz _=>?_
  simp
 ·show((lay p b t m f).bind λx=>lay q x.2 x.1 m f).bind (λx=>lay r x.2 x.1 m f)=(lay p b t m f).bind λx=>(lay q x.2 x.1 m f).bind λx=>lay r x.2 x.1 m f
  rw[Option.bind_assoc]
theorem V7{a b:Plan}(h:b9 a b):∀l:List Plan,b9 (l.foldl Plan.beside a) (l.foldl Plan.beside b)
 |[]=>h
 |x::l=>V7 (a:=.beside a x) (b:=.beside b x) (b9.beside h (b9.refl x)) l
theorem V8(a:Plan):∀(l:List Plan) (q:Plan),b9 (l.foldl Plan.beside (.beside a q)) (.beside a (l.foldl Plan.beside q))
 |[],q=>b9.refl _
 |x::l,q=>(V7 (b9.assoc a q x) l).trans (V8 a l (.beside q x))
theorem CO(p:Plan)(ps:List Plan)(q:Plan)(qs:List Plan):b9 (aY (p::ps++q::qs)) (.beside (aY (p::ps)) (aY (q::qs))):=by
 show b9 ((ps++q::qs).foldl Plan.beside p) _;rw[foldl_append];exact V8 _ qs q
theorem CU (h1:ps≠[])(h2:qs≠[]):b9 (aY (ps++qs)) (.beside (aY ps) (aY qs)):=by
 cases ps with
 |nil=>exact absurd rfl h1
 |cons p ps=>
  cases qs with
  |nil=>exact absurd rfl h2
  |cons q qs=>exact CO p ps q qs
theorem Ij:∀(n:Nat) (ps:List Plan),ps.length<=n->b9 (jn n ps) (aY ps)
 |0,ps,h=>by
  have:ps=[]:=List.eq_nil_of_length_eq_zero (by omega);subst this
  exact b9.refl _
 |n+1,[],h=>b9.refl _
 |n+1,[p],h=>b9.refl _
 |n+1,a::b::ps,h=>by
  have h2:2<=(a::b::ps).length:=by simp
  generalize hq:a::b::ps=qs at h h2 ⊢
  rw[rO n h2];have l1:(qs.take (qs.length / 2)).length=qs.length / 2:=by rw[length_take];omega
  have l2:(qs.drop (qs.length / 2)).length=qs.length - qs.length / 2:=length_drop;have i1:=Ij n (qs.take (qs.length / 2)) (by omega);have i2:=Ij n (qs.drop (qs.length / 2)) (by omega);have e:=CU (ps:=qs.take (qs.length / 2)) (qs:=qs.drop (qs.length / 2)) (λz=>by rw[z] at l1;simp at l1;omega) (λz=>by rw[z] at l2;simp at l2;omega);rw[take_append_drop] at e
  exact(b9.beside i1 i2).trans e.symm
theorem CY:∀ {ps qs:List Plan},Pw b9 ps qs->b9 (aY ps) (aY qs)
 |_,_,.nil=>b9.refl _
 |_,_,.cons h t=>go h t
where
 go:∀ {p q:Plan} {ps qs:List Plan},b9 p q->Pw b9 ps qs->b9 (ps.foldl Plan.beside p) (qs.foldl Plan.beside q)
  |_,_,_,_,h,.nil=>h
  |p,q,a::ps,b::qs,h,.cons h' t=>go (p:=.beside p a) (q:=.beside q b) (ps:=ps) (qs:=qs) (b9.beside h h') t
structure i9(J:List Plan->Plan)(n:Nat):Prop where
 eq:∀ps,ps.length<=n->b9 (J ps) (aY ps)
theorem i9.jn(n:Nat):i9 (jn n) n:=⟨λps h=>Ij n ps h⟩
theorem i9.aY(n:Nat):i9 aY n:=⟨λps _=>b9.refl _⟩
theorem i9.congr{J J':List Plan->Plan} (h:i9 J n)(h':i9 J' n) (e:Pw b9 ps qs)(l:ps.length<=n):b9 (J ps) (J' qs):=
 (h.eq ps l).trans ((CY e).trans (h'.eq qs (by rw[<-e.len];exact l)).symm)
theorem V9 (h:b9 p q):b9 (grp p) (grp q):=b9.choice h.flat h
theorem Va{J J':List Plan->Plan} (hn:9<=n)(h:i9 J n)(h':i9 J' n)(k:Nat)(t:Tr) (e:b9 p q):b9 (f7 J k t p) (f7 J' k t q):=by
 unfold f7
 split
 ·exact e
 ·exact h.congr h' (.cons (b9.refl _) (.cons e.align (.cons (b9.refl _) .nil))) (by show 3<=n;omega)
theorem Da:∀ {ps qs:List Plan},Pw b9 ps qs->Pw b9 (gk ps) (gk qs)
 |_,_,.nil=>.nil
 |_,_,.cons h t=>.cons (b9.refl _) (.cons h (go t))
where
 go:∀ {ps qs:List Plan},Pw b9 ps qs->Pw b9 (ps.flatMap λq=>[.text [44],.line,q]) (qs.flatMap λq=>[.text [44],.line,q])
  |_,_,.nil=>.nil
  |_,_,.cons h t=>.cons (b9.refl _) (.cons (b9.refl _) (.cons h (go t)))
theorem qw(ps:List Plan):(gk ps).length<=3*ps.length:=by
 cases ps with
 |nil=>exact zero_le _
 |cons p ps=>
  have:(ps.flatMap λq=>[Plan.text [44],.line,q]).length=ps.length*3:=lM _ 3 _ λ_ _=>rfl
  show(ps.flatMap λq=>[Plan.text [44],.line,q]).length+1+1<=3*(ps.length+1);omega
theorem Vb{J J':List Plan->Plan} (hn:9<=n)(h:i9 J n)(h':i9 J' n)(o c:List Nat) (e:Pw b9 ps qs)(l:ps.length<=3):b9 (iJ J o ps c) (iJ J' o qs c):=by
 have el:=e.len;unfold iJ;have z:ps.isEmpty=qs.isEmpty:=by cases ps<;>cases qs<;>first|rfl|(simp at el)
 rw[z]
 split
 ·exact b9.refl _
 ·refine V9 (h.congr h' (.cons (b9.refl _) (.cons (b9.nest 2 (h.congr h' (Da e) ?_)) (.cons (b9.refl _) (.cons (b9.refl _) .nil)))) (by show 4<=n;omega))
  have:=qw ps;omega
mutual
def Tr.ok:Tr->Prop
 |.name s=>s.length<=13/\∀c∈s,32<c/\c<128
 |.num n=>n<100000000000
 |.call s ts=>(s.length<=5/\∀c∈s,32<c/\c<128)/\ts.length<=3/\j9 ts
 |.row ts=>ts.length<=3/\j9 ts
 |.bin op a b=>(op=43\/op=45\/op=42)/\ok a/\ok b
def Tr.j9:List Tr->Prop
 |[]=>True
 |t::ts=>Tr.ok t/\j9 ts
end
theorem su:∀ {ts:List Tr} {t:Tr},Tr.j9 ts->t∈ts->t.ok
 |[],_,_,h=>nomatch h
 |u::us,t,h,m=>by
  rw[Tr.j9] at h
  rcases List.mem_cons.mp m with e|m
  ·rw[e];exact h.1
  ·exact su h.2 m
theorem uJ:∀ {ts:List Tr} {t:Tr},t∈ts->t.deep<=Tr.eN ts
 |[],_,h=>nomatch h
 |u::us,t,m=>by
  show t.deep<=max u.deep (Tr.eN us);rcases List.mem_cons.mp m with e|m
  ·rw[e];omega
  ·have:=uJ m;omega
theorem wk(J:List Plan->Plan):∀t:Tr,(bV J t).2.2.length<=3*t.deep
 |.name _=>by rw[bV];exact zero_le _
 |.num _=>by rw[bV];exact zero_le _
 |.call _ _=>by rw[bV];exact zero_le _
 |.row _=>by rw[bV];exact zero_le _
 |.bin op a b=>by
  rw[p7];have ha:=wk J a;have:(bZ J op a).2.length<=3*a.deep:=by
   unfold bZ
   split
   ·exact ha
   ·exact zero_le _
  show((bZ J op a).2++dj J op b).length<=3*(max a.deep b.deep+1);rw[length_append];show _+3<=_;omega
mutual
theorem BJ{J J':List Plan->Plan}{n:Nat}(hn:9<=n)(h:i9 J n)(h':i9 J' n):∀t:Tr,t.ok->t.deep<=3->b9 (bV J t).1 (bV J' t).1/\b9 (bV J t).2.1 (bV J' t).2.1/\Pw b9 (bV J t).2.2 (bV J' t).2.2
 |.name _,_,_=>by rw[bV,bV];exact⟨b9.refl _,b9.refl _,.nil⟩
 |.num _,_,_=>by rw[bV,bV];exact⟨b9.refl _,b9.refl _,.nil⟩
 |.call s ts,f,d=>by
  rw[bV,bV];rw[Tr.ok] at f
  have d':Tr.eN ts+1<=3:=d;refine⟨Vb hn h h' _ _ (Ik hn h h' ts f.2.2 (by omega)) (by rw[jO,length_map];exact f.2.1),b9.refl _,.nil⟩
 |.row ts,f,d=>by
  rw[bV,bV];rw[Tr.ok] at f
  have d':Tr.eN ts+1<=3:=d;refine⟨Vb hn h h' _ _ (Ik hn h h' ts f.2 (by omega)) (by rw[jO,length_map];exact f.1),b9.refl _,.nil⟩
 |.bin op a b,f,d=>by
  rw[Tr.ok] at f
  have d':max a.deep b.deep+1<=3:=d;obtain⟨a1,a2,a3⟩:=BJ hn h h' a f.2.1 (by omega);obtain⟨b1,_,_⟩:=BJ hn h h' b f.2.2 (by omega);have hl:=wk J a;have hc:b9 (bZ J op a).1 (bZ J' op a).1/\Pw b9 (bZ J op a).2 (bZ J' op a).2/\(bZ J op a).2.length<=6:=by
   unfold bZ
   split
   ·exact⟨a2,a3,by omega⟩
   ·exact⟨Va hn h h' _ _ a1,.nil,zero_le _⟩
  have hk:Pw b9 (dj J op b) (dj J' op b):=.cons (b9.refl _) (.cons (b9.refl _) (.cons (Va hn h h' _ _ b1) .nil));rw[p7,p7];have ha:=hc.2.1.app hk;refine⟨V9 (h.congr h' (.cons hc.1 (.cons (b9.nest 2 (h.congr h' ha ?_)) .nil)) (by show 2<=n;omega)),hc.1,ha⟩;rw[length_append];show _+3<=n;omega
theorem Ik{J J':List Plan->Plan}{n:Nat}(hn:9<=n)(h:i9 J n)(h':i9 J' n):∀ts:List Tr,Tr.j9 ts->Tr.eN ts<=3->Pw b9 (dH J ts) (dH J' ts)
 |[],_,_=>by rw[dH,dH];exact .nil
 |t::ts,f,d=>by
  rw[dH,dH];rw[Tr.j9] at f
  have d':max t.deep (Tr.eN ts)<=3:=d;exact .cons (BJ hn h h' t f.1 (by omega)).1 (Ik hn h h' ts f.2 (by omega))
end
structure o7(J:List Plan->Plan)(n:Nat):Prop where
 le:∀ {g:Plan->Nat} {c:Nat},(∀p q,g (.beside p q)<=g p+g q+c)->∀ps,1<=ps.length->ps.length<=n->g (J ps)+c<=(ps.map λp=>g p+c).sum
theorem Il{g:Plan->Nat}{c:Nat}(hb:∀p q,g (.beside p q)<=g p+g q+c):∀(n:Nat) (ps:List Plan),1<=ps.length->ps.length<=n->g (jn n ps)+c<=(ps.map λp=>g p+c).sum
 |0,ps,h1,h=>by omega
 |n+1,[],h1,h=>by simp at h1
 |n+1,[p],h1,h=>by show g p+c<=(g p+c)+0;omega
 |n+1,a::b::ps,h1,h=>by
  have h2:2<=(a::b::ps).length:=by simp
  generalize hq:a::b::ps=qs at h h2 ⊢
  rw[rO n h2];have l1:(qs.take (qs.length / 2)).length=qs.length / 2:=by rw[length_take];omega
  have l2:(qs.drop (qs.length / 2)).length=qs.length - qs.length / 2:=length_drop;have i1:=Il hb n (qs.take (qs.length / 2)) (by omega) (by omega);have i2:=Il hb n (qs.drop (qs.length / 2)) (by omega) (by omega);have i3:=hb (jn n (qs.take (qs.length / 2))) (jn n (qs.drop (qs.length / 2)));have e:(qs.map λp=>g p+c).sum=((qs.take (qs.length / 2)).map λp=>g p+c).sum+((qs.drop (qs.length / 2)).map λp=>g p+c).sum:=by
   rw[<-sum_append,<-map_append,take_append_drop]
  omega
theorem o7.jn(n:Nat):o7 (jn n) n:=⟨λhb ps h1 h=>Il hb n ps h1 h⟩
theorem zm2{g:Plan->Nat}{c:Nat}(hb:∀p q,g (.beside p q)<=g p+g q+c):∀(ps:List Plan) (p:Plan),g (ps.foldl Plan.beside p)<=g p+(ps.map λp=>g p+c).sum
 |[],p=>le_refl _
 |q::ps,p=>by
  have:=zm2 hb ps (.beside p q);have:=hb p q;show g (ps.foldl Plan.beside (.beside p q))<=_;rw[map_cons,sum_cons];omega
theorem o7.aY(n:Nat):o7 aY n:=⟨λ{g c} hb ps h1 h=>by
 cases ps with
 |nil=>simp at h1
 |cons p ps=>
  have:=zm2 hb ps p;show g (ps.foldl Plan.beside p)+c<=_
  rw[map_cons,sum_cons];omega⟩
structure Ms(g:Plan->Nat)(c τ:Nat)(γ:Nat->Nat):Prop where
 bs:∀p q,g (.beside p q)<=g p+g q+c
 ns:∀p,g (.nest 2 p)<=g p+2
 al:∀p,g (.align p)<=g p+2
 gr:∀p,g (grp p)<=γ (g p)
 mo:∀x y,x<=y->γ x<=γ y
 ge:∀x,x<=γ x
 tx:∀s,s.length<=7->g (.text s)<=τ
 ln:g .line<=τ
 ct:g .cut<=τ
theorem wu:∀ {ts:List Tr} {t:Tr},t∈ts->t.size<=Tr.sizes ts
 |[],_,h=>nomatch h
 |u::us,t,h=>by
  show t.size<=u.size+Tr.sizes us;rcases List.mem_cons.mp h with e|m
  ·rw[e];omega
  ·have:=wu m;omega
theorem Vc (h:n<100000000000):(lR n).length<=13:=by
 unfold lR;rw[length_map];have:=(Nat.length_toDigits_le_iff (b:=10) (n:=n) (k:=11) (by decide) (by decide)).mpr (by omega);omega
theorem Vd{J:List Plan->Plan} {g:Plan->Nat} {γ:Nat->Nat}(M:Ms g c τ γ)(JS:o7 J n)(hn:9<=n)(k:Nat)(t:Tr)(p:Plan):g (f7 J k t p)+c<=g p+c+2*(τ+c)+2:=by
 unfold f7
 split
 ·omega
 ·have h:=JS.le M.bs [.text [40],.align p,.text [41]] (by show 1<=3;decide) (by show 3<=n;omega)
  have h1:=M.tx [40] (by decide);have h2:=M.tx [41] (by decide);have h3:=M.al p;simp only[map_cons,map_nil,sum_cons,sum_nil] at h
  omega
theorem De{g:Plan->Nat} {γ:Nat->Nat}(M:Ms g c τ γ)(B:Nat)(ps:List Plan)(h:∀p∈ps,g p<=B):((gk ps).map λp=>g p+c).sum<=ps.length*(B+c)+ps.length*(2*(τ+c)):=by
 cases ps with
 |nil=>exact zero_le _
 |cons p ps=>
  have h1:=M.ct;have h2:=h p mem_cons_self;have rest:∀qs:List Plan,(∀q∈qs,g q<=B)->((qs.flatMap λq=>[.text [44],.line,q]).map λp=>g p+c).sum<=qs.length*(B+c)+qs.length*(2*(τ+c)):=by
   intro qs
   induction qs with
   |nil=>intro _;exact zero_le _
   |cons q qs ih=>
    intro hq;have i1:=ih λx hx=>hq x (mem_cons_of_mem _ hx)
    have i2:=hq q mem_cons_self;have i3:=M.tx [44] (by decide);have i4:=M.ln;have e:((q::qs).flatMap λq=>[Plan.text [44],.line,q])=.text [44]::.line::q::(qs.flatMap λq=>[Plan.text [44],.line,q]):=rfl;rw[e,map_cons,map_cons,map_cons,sum_cons,sum_cons,sum_cons,length_cons,add_mul,add_mul];omega
  have r:=rest ps λx hx=>h x (mem_cons_of_mem _ hx)
  show(((.cut:Plan)::p::(ps.flatMap λq=>[.text [44],.line,q])).map λp=>g p+c).sum<=_;rw[map_cons,map_cons,sum_cons,sum_cons,length_cons,add_mul,add_mul];omega
theorem Do{J:List Plan->Plan} {g:Plan->Nat} {γ:Nat->Nat}(M:Ms g c τ γ)(JS:o7 J n)(hn:9<=n)(B:Nat)(o e:List Nat)(ho:o.length<=6)(he:e.length<=1)(ps:List Plan)(hl:ps.length<=3)(h:∀p∈ps,g p<=B):g (iJ J o ps e)<=γ (3*(B+c)+9*(τ+c)+8):=by
 unfold iJ
 split
 ·have h1:=M.tx (o++e) (by rw[length_append];omega)
  have h2:=M.ge (3*(B+c)+9*(τ+c)+8);omega
 ·rename_i hne
  have hpos:1<=ps.length:=by cases ps with
   |nil=>exact absurd rfl hne
   |cons p ps=>rw[length_cons];omega
  refine le_trans (M.gr _) (M.mo _ _ ?_);have i1:=JS.le M.bs [.text o,.nest 2 (J (gk ps)),.cut,.text e] (by show 1<=4;decide) (by show 4<=n;omega);simp only[map_cons,map_nil,sum_cons,sum_nil] at i1
  have l:=qw ps;have lp:1<=(gk ps).length:=by cases ps with
   |nil=>exact absurd rfl hne
   |cons p ps=>show 1<=_+1;omega
  have i2:=JS.le M.bs (gk ps) lp (by omega);have i3:=De M B ps h;have i4:=M.ns (J (gk ps));have i5:=M.tx o (by omega);have i6:=M.tx e (by omega);have i7:=M.ct;have m1:ps.length*(B+c)<=3*(B+c):=mul_le_mul_right _ hl;have m2:ps.length*(2*(τ+c))<=3*(2*(τ+c)):=mul_le_mul_right _ hl;omega
theorem sE{J:List Plan->Plan} {g:Plan->Nat} {γ:Nat->Nat}(M:Ms g c τ γ)(JS:o7 J n)(hn:9<=n)(B:Nat->Nat)(h0:∀s,s.length<=13->g (.text s)<=B 0)(hB:∀d,γ (3*(B d+c)+9*(τ+c)+8)<=B (d+1)):
  ∀(k:Nat) (t:Tr),t.size<=k->t.ok->t.deep<=3->g (bV J t).1<=B t.deep/\(∀op a b,t=.bin op a b->(g (bV J t).2.1+c)+((bV J t).2.2.map λp=>g p+c).sum<=B t.deep):=by
 have up:∀d,B d<=B (d+1):=λd=>by have:=hB d;have:=M.ge (3*(B d+c)+9*(τ+c)+8);omega
 have ups:∀d e,d<=e->B d<=B e:=λd e h=>by
  induction h with
  |refl=>exact le_refl _
  |step _ ih=>exact le_trans ih (up _)
 have tl:∀op:Nat,g (.text [op,32])<=τ:=λop=>M.tx _ (by show 2<=7;decide)
 have ln:=M.ln;intro k
 induction k with
 |zero=>intro t h;cases t<;>simp[Tr.size] at h
 |succ k ih=>
  intro t hk ho hd;have parts:∀(o:List Nat) (ts:List Tr) (e:List Nat),o.length<=6->e.length<=1->Tr.sizes ts<=k->ts.length<=3->Tr.j9 ts->Tr.eN ts+1<=3->g (iJ J o (dH J ts) e)<=B (Tr.eN ts+1):=λo ts e h1 h2 h3 h4 h5 h6=>by
   refine le_trans (Do M JS hn (B (Tr.eN ts)) o e h1 h2 _ (by rw[jO,length_map];exact h4) λp hp=>?_) (hB _);rw[jO] at hp
   obtain⟨u,hu,rfl⟩:=List.mem_map.mp hp;have hd':=uJ hu;exact le_trans (ih u (le_trans (wu hu) h3) (su h5 hu) (by omega)).1 (ups _ _ hd')
  cases t with
  |name s=>rw[Tr.ok] at ho;rw[bV];exact⟨h0 s ho.1,λ_ _ _ z=>nomatch z⟩
  |num m=>rw[Tr.ok] at ho;rw[bV];exact⟨h0 _ (Vc ho),λ_ _ _ z=>nomatch z⟩
  |call s ts=>
   rw[Tr.ok] at ho
   rw[bV];rw[Tr.size] at hk
   exact⟨parts _ ts _ (by rw[length_append];have:=ho.1.1;show _+1<=6;omega) (by decide) (by omega) ho.2.1 ho.2.2 hd,λ_ _ _ z=>nomatch z⟩
  |row ts=>
   rw[Tr.ok] at ho
   rw[bV];rw[Tr.size] at hk
   exact⟨parts _ ts _ (by decide) (by decide) (by omega) ho.1 ho.2 hd,λ_ _ _ z=>nomatch z⟩
  |bin op a b=>
   rw[Tr.ok] at ho
   rw[Tr.size] at hk
   have hd':max a.deep b.deep+1<=3:=hd;obtain⟨a1,a2⟩:=ih a (by omega) ho.2.1 (by omega);obtain⟨b1,_⟩:=ih b (by omega) ho.2.2 (by omega);have ua:=ups a.deep (max a.deep b.deep) (by omega);have ub:=ups b.deep (max a.deep b.deep) (by omega);have hl:=wk J a;have hc:(g (bZ J op a).1+c)+((bZ J op a).2.map λp=>g p+c).sum<=B (max a.deep b.deep)+c+2*(τ+c)+2/\(bZ J op a).2.length<=6:=by
    unfold bZ
    split
    ·rename_i e
     cases a with
     |bin op' x y=>exact⟨by have:=a2 op' x y rfl;omega,by omega⟩
     |_=>cases e
    ·refine⟨?_,zero_le _⟩
     have:=Vd M JS hn (fK op) a (bh J a);have:g (bh J a)<=_:=a1;show(g (f7 J (fK op) a (bh J a))+c)+0<=_;omega
   have hk2:((dj J op b).map λp=>g p+c).sum<=2*(τ+c)+(B (max a.deep b.deep)+c+2*(τ+c)+2):=by
    have:=Vd M JS hn (fK op) b (bh J b);have:g (bh J b)<=_:=b1;have:=tl op;show(g .line+c)+((g (.text [op,32])+c)+((g (f7 J (fK op) b (bh J b))+c)+0))<=_;omega
   rw[p7];have hs:(g (bZ J op a).1+c)+(((bZ J op a).2++dj J op b).map λp=>g p+c).sum<=2*(B (max a.deep b.deep)+c)+6*(τ+c)+4:=by
    rw[map_append,sum_append];omega
   have hB':=hB (max a.deep b.deep);refine⟨?_,λ_ _ _ _=>?_⟩
   ·refine le_trans (M.gr _) (le_trans (M.mo _ _ ?_) hB')
    have i1:=JS.le M.bs [(bZ J op a).1,.nest 2 (J ((bZ J op a).2++dj J op b))] (by show 1<=2;decide) (by show 2<=n;omega);simp only[map_cons,map_nil,sum_cons,sum_nil] at i1
    have le:((bZ J op a).2++dj J op b).length=(bZ J op a).2.length+3:=by rw[length_append];rfl
    have i2:=JS.le M.bs ((bZ J op a).2++dj J op b) (by omega) (by omega);have i3:=M.ns (J ((bZ J op a).2++dj J op b));omega
   ·have:=M.ge (3*(B (max a.deep b.deep)+c)+9*(τ+c)+8)
    show(g (bZ J op a).1+c)+(((bZ J op a).2++dj J op b).map λp=>g p+c).sum<=B (max a.deep b.deep+1);omega
theorem Ve:Ms Plan.leaves 0 1 id:=⟨λ_ _=>le_refl _,λ_=>le_add_right _ 2,λ_=>le_add_right _ 2,λp=>by show max p.leaves p.leaves<=p.leaves;omega,λ_ _ h=>h,λ_=>le_refl _,λ_ _=>le_refl _,le_refl _,le_refl _⟩
theorem Vf:Ms Plan.grow 0 7 id:=⟨λ_ _=>le_refl _,λp=>by show 2+p.grow<=_;omega,λ_=>le_add_right _ 2,λp=>by show max p.grow p.grow<=p.grow;omega,λ_ _ h=>h,λ_=>le_refl _,λs h=>h,by decide,by decide⟩
theorem Vg:Ms Plan.size 1 1 (λx=>2*x+2):=⟨λ_ _=>le_refl _,λp=>by show p.size+1<=_;omega,λp=>by show p.size+1<=_;omega,λp=>by show p.size+1+p.size+1<=_;omega,λ_ _ h=>by omega,λ_=>by omega,λ_ _=>le_refl _,le_refl _,le_refl _⟩
noncomputable def jh:Plan->Nat
 |.text _=>1|.line=>1|.cut=>1
 |.nest _ p=>jh p|.align p=>jh p|.flat p=>jh p
 |.beside p q=>jh p+jh q+3
 |.choice p q=>max (jh p) (jh q)+1
theorem Dx:Ms jh 3 1 (λx=>x+1):=⟨λ_ _=>le_refl _,λ_=>le_add_right _ 2,λ_=>le_add_right _ 2,λp=>by show max (jh p) (jh p)+1<=_;omega,λ_ _ h=>by omega,λ_=>by omega,λ_ _=>le_refl _,le_refl _,le_refl _⟩
def yX(p:Plan):Nat:=(cO p).length
theorem DA:Ms yX 1 1 (λx=>x+1):=by
 refine⟨λp q=>?_,λ_=>le_add_right _ 2,λ_=>le_add_right _ 2,λp=>?_,λ_ _ h=>by omega,λ_=>by omega,λ_ _=>le_refl _,le_refl _,le_refl _⟩
 ·unfold yX
  show(if _ then _ else _:List Plan).length<=_
  split
  ·rw[length_append];show _+1<=_;omega
  ·rw[length_append,length_append];show _+(_+1)<=_;omega
 ·unfold yX
  show(if zk8 p=zk8 p then cO p++[Plan.choice (.flat p) p] else cO p++(cO p++[Plan.choice (.flat p) p])).length<=(cO p).length+1;rw[if_pos rfl,length_append];exact le_refl _
def uK:Nat->Nat|0=>1|d+1=>3*uK d+17
def uL:Nat->Nat|0=>13|d+1=>3*uL d+71
def uM:Nat->Nat|0=>1|d+1=>2*(3*(uM d+1)+26)+2
noncomputable def BK:Nat->Nat|0=>1|d+1=>3*(BK d+3)+44+1
def BL:Nat->Nat|0=>1|d+1=>3*(BL d+1)+26+1
structure qx(J:List Plan->Plan)(h:Nat):Prop where
 le:∀(ps:List Plan) (D:Nat),1<=ps.length->ps.length<=9->(∀p∈ps,p.deep<=D)->(J ps).deep<=D+h
theorem Im(D:Nat):∀(k n:Nat) (ps:List Plan),ps.length<=2 ^ k->(∀p∈ps,p.deep<=D)->(jn n ps).deep<=D+k
 |_,0,_,_,_=>zero_le _
 |_,n+1,[],_,_=>zero_le _
 |_,n+1,[p],_,h=>by have:=h p (by simp);show p.deep<=_;omega
 |0,n+1,a::b::ps,hl,_=>by simp at hl
 |k+1,n+1,a::b::ps,hl,h=>by
  have h2:2<=(a::b::ps).length:=by simp
  generalize hq:a::b::ps=qs at h h2 hl ⊢
  rw[rO n h2];rw[Nat.pow_succ] at hl
  have h3:=Im D k n (qs.take (qs.length / 2)) (by rw[length_take];omega) λp hp=>h p (List.mem_of_mem_take hp)
  have h4:=Im D k n (qs.drop (qs.length / 2)) (by rw[length_drop];omega) λp hp=>h p (List.mem_of_mem_drop hp)
  show max _ _+1<=_;omega
theorem qx.jn(n:Nat):qx (jn n) 4:=⟨λps D _ h=>Im D 4 n ps (by show _<=16;omega)⟩
theorem Vh(D:Nat):∀(ps:List Plan) (p:Plan) (E:Nat),p.deep<=D+E->(∀q∈ps,q.deep<=D)->(ps.foldl Plan.beside p).deep<=D+E+ps.length
 |[],p,E,h,_=>h
 |q::ps,p,E,h,hq=>by
  have h1:=hq q mem_cons_self;have:=Vh D ps (.beside p q) (E+1) (by show max p.deep q.deep+1<=_;omega) λx hx=>hq x (mem_cons_of_mem _ hx)
  show(ps.foldl Plan.beside (.beside p q)).deep<=_;rw[length_cons];omega
theorem qx.aY:qx aY 8:=⟨λps D h1 h9 h=>by
 cases ps with
 |nil=>simp at h1
 |cons p ps=>
  have:=Vh D ps p 0 (h p mem_cons_self) λq hq=>h q (mem_cons_of_mem _ hq)
  rw[length_cons] at h9
  show(ps.foldl Plan.beside p).deep<=_
  omega⟩
theorem Vi{J:List Plan->Plan}{h:Nat}(JD:qx J h)(k:Nat)(t:Tr) {D:Nat}(hp:p.deep<=D):(f7 J k t p).deep<=D+1+h:=by
 unfold f7
 split
 ·omega
 ·refine JD.le _ _ (by show 1<=3;decide) (by show 3<=9;decide) λq hq=>?_
  simp only[mem_cons,not_mem_nil,or_false] at hq
  rcases hq with rfl|rfl|rfl
  ·exact zero_le _
  ·show p.deep+1<=_;omega
  ·exact zero_le _
theorem Io{R:Plan->Prop}(h1:R .cut)(h2:R (.text [44]))(h3:R .line)(ps:List Plan)(h:∀p∈ps,R p):∀p∈gk ps,R p:=by
 cases ps with
 |nil=>exact λp hp=>nomatch hp
 |cons q ps=>
  intro p hp;rcases List.mem_cons.mp hp with rfl|hp
  ·exact h1
  ·rcases List.mem_cons.mp hp with rfl|hp
   ·exact h _ mem_cons_self
   ·obtain⟨x,hx,hp⟩:=List.mem_flatMap.mp hp
    simp only[mem_cons,not_mem_nil,or_false] at hp
    rcases hp with rfl|rfl|rfl
    ·exact h2
    ·exact h3
    ·exact h _ (mem_cons_of_mem _ hx)
theorem Vj(p:Plan):(grp p).deep=p.deep+2:=by show max (p.deep+1) p.deep+1=_;omega
theorem DB{J:List Plan->Plan}{h:Nat}(JD:qx J h)(o c:List Nat) {D:Nat}(hl:ps.length<=3)(hp:∀p∈ps,p.deep<=D):(iJ J o ps c).deep<=D+2*h+3:=by
 unfold iJ
 split
 ·exact zero_le _
 ·rename_i hne
  have l:=qw ps;have lp:1<=(gk ps).length:=by cases ps with
   |nil=>exact absurd rfl hne
   |cons p ps=>show 1<=_+1;omega
  have i1:=JD.le (gk ps) D lp (by omega) (Io (R:=λp=>p.deep<=D) (zero_le _) (zero_le _) (zero_le _) ps hp);rw[Vj];have i2:=JD.le [.text o,.nest 2 (J (gk ps)),.cut,.text c] (D+h+1) (by show 1<=4;decide) (by show 4<=9;decide) λq hq=>by
   simp only[mem_cons,not_mem_nil,or_false] at hq
   rcases hq with rfl|rfl|rfl|rfl
   ·exact zero_le _
   ·show(J (gk ps)).deep+1<=_;omega
   ·exact zero_le _
   ·exact zero_le _
  omega
theorem Vk{J:List Plan->Plan}{h:Nat}(JD:qx J h):∀(k:Nat) (t:Tr),t.size<=k->t.ok->t.deep<=3->(bV J t).1.deep<=(3*h+5)*t.deep/\(∀op a b,t=.bin op a b->∀p∈(bV J t).2.1::(bV J t).2.2,p.deep+(2*h+4)<=(3*h+5)*t.deep):=by
 have ups:∀d e,d<=e->(3*h+5)*d<=(3*h+5)*e:=λd e z=>mul_le_mul_left _ z
 have stp:∀d,(3*h+5)*(d+1)=(3*h+5)*d+(3*h+5):=λd=>Nat.mul_succ _ _
 intro k
 induction k with
 |zero=>intro t h;cases t<;>simp[Tr.size] at h
 |succ k ih=>
  intro t hk ho hd;have parts:∀(o:List Nat) (ts:List Tr) (e:List Nat),Tr.sizes ts<=k->ts.length<=3->Tr.j9 ts->Tr.eN ts+1<=3->(iJ J o (dH J ts) e).deep<=(3*h+5)*(Tr.eN ts+1):=λo ts e h3 h4 h5 h6=>by
   refine le_trans (DB JD o e (D:=(3*h+5)*Tr.eN ts) (by rw[jO,length_map];exact h4) λp hp=>?_) (by rw[stp];omega);rw[jO] at hp
   obtain⟨u,hu,rfl⟩:=List.mem_map.mp hp;have hd':=uJ hu;exact le_trans (ih u (le_trans (wu hu) h3) (su h5 hu) (by omega)).1 (ups _ _ hd')
  cases t with
  |name s=>rw[bV];exact⟨zero_le _,λ_ _ _ z=>nomatch z⟩
  |num m=>rw[bV];exact⟨zero_le _,λ_ _ _ z=>nomatch z⟩
  |call s ts=>
   rw[Tr.ok] at ho
   rw[bV];rw[Tr.size] at hk
   exact⟨parts _ ts _ (by omega) ho.2.1 ho.2.2 hd,λ_ _ _ z=>nomatch z⟩
  |row ts=>
   rw[Tr.ok] at ho
   rw[bV];rw[Tr.size] at hk
   exact⟨parts _ ts _ (by omega) ho.1 ho.2 hd,λ_ _ _ z=>nomatch z⟩
  |bin op a b=>
   rw[Tr.ok] at ho
   rw[Tr.size] at hk
   have hd':max a.deep b.deep+1<=3:=hd;obtain⟨a1,a2⟩:=ih a (by omega) ho.2.1 (by omega);obtain⟨b1,_⟩:=ih b (by omega) ho.2.2 (by omega);have ua:=ups a.deep (max a.deep b.deep) (by omega);have ub:=ups b.deep (max a.deep b.deep) (by omega);have us:=stp (max a.deep b.deep);have hl:=wk J a;have hc:(∀p∈(bZ J op a).1::(bZ J op a).2,p.deep<=(3*h+5)*max a.deep b.deep+1+h)/\(bZ J op a).2.length<=6:=by
    unfold bZ
    split
    ·rename_i e
     cases a with
     |bin op' x y=>exact⟨λp hp=>by have:=a2 op' x y rfl p hp;omega,by omega⟩
     |_=>cases e
    ·refine⟨λp hp=>?_,zero_le _⟩
     rw[List.mem_singleton.mp hp];exact Vi JD _ _ (le_trans a1 ua)
   rw[p7];have hall:∀p∈(bZ J op a).1::((bZ J op a).2++dj J op b),p.deep<=(3*h+5)*max a.deep b.deep+1+h:=λp hp=>by
    rw[<-cons_append] at hp
    rcases List.mem_append.mp hp with hp|hp
    ·exact hc.1 p hp
    ·have hp:p∈[.line,.text [op,32],f7 J (fK op) b (bh J b)]:=hp
     simp only[mem_cons,not_mem_nil,or_false] at hp
     rcases hp with rfl|rfl|rfl
     ·exact zero_le _
     ·exact zero_le _
     ·exact Vi JD _ _ (le_trans b1 ub)
   refine⟨?_,λ_ _ _ _ p hp=>?_⟩
   ·have le:((bZ J op a).2++dj J op b).length=(bZ J op a).2.length+3:=by rw[length_append];rfl
    have i1:=JD.le ((bZ J op a).2++dj J op b) _ (by omega) (by omega) λp hp=>hall p (mem_cons_of_mem _ hp)
    have i2:=JD.le [(bZ J op a).1,.nest 2 (J ((bZ J op a).2++dj J op b))] ((3*h+5)*max a.deep b.deep+1+h+h+1) (by show 1<=2;decide) (by show 2<=9;decide) λq hq=>by
     simp only[mem_cons,not_mem_nil,or_false] at hq
     rcases hq with rfl|rfl
     ·have:=hall _ mem_cons_self;omega
     ·show(J ((bZ J op a).2++dj J op b)).deep+1<=_;omega
    show(grp _).deep<=(3*h+5)*(max a.deep b.deep+1);rw[Vj];omega
   ·have:=hall p hp
    show p.deep+(2*h+4)<=(3*h+5)*(max a.deep b.deep+1);omega
structure All(J:List Plan->Plan)(R:Plan->Prop):Prop where
 jn:∀ps,ps≠[]->(∀p∈ps,R p)->R (J ps)
 tx:∀s,(∀c∈s,31<c/\c<128)->R (.text s)
 ln:R .line
 ct:R .cut
 ns:∀p,R p->R (.nest 2 p)
 al:∀p,R p->R (.align p)
 gr:∀p,R p->R (grp p)
theorem DC(n:Nat):∀c∈lR n,31<c/\c<128:=by
 intro c hc;unfold lR at hc
 obtain⟨x,hx,rfl⟩:=List.mem_map.mp hc;have:=Nat.isDigit_of_mem_toDigits (by decide) (by decide) hx;unfold Char.isDigit at this
 simp only[and_eq_true,decide_eq_true_eq] at this
 have h1:48<=x.val.toNat:=this.1
 have h2:x.val.toNat<=57:=this.2
 show 31<x.val.toNat/\x.val.toNat<128;omega
theorem Vl{J:List Plan->Plan}{R:Plan->Prop}(A:All J R)(k:Nat)(t:Tr) (hp:R p):R (f7 J k t p):=by
 unfold f7
 split
 ·exact hp
 ·refine A.jn _ (by simp) λq hq=>?_
  simp only[mem_cons,not_mem_nil,or_false] at hq
  rcases hq with rfl|rfl|rfl
  ·exact A.tx _ (by decide)
  ·exact A.al _ hp
  ·exact A.tx _ (by decide)
theorem DE{J:List Plan->Plan}{R:Plan->Prop}(A:All J R)(o c:List Nat)(ho:∀x∈o,31<x/\x<128)(hc:∀x∈c,31<x/\x<128) (hp:∀p∈ps,R p):R (iJ J o ps c):=by
 unfold iJ
 split
 ·exact A.tx _ λx hx=>(List.mem_append.mp hx).elim (ho x) (hc x)
 ·rename_i hne
  refine A.gr _ (A.jn _ (by simp) λq hq=>?_);simp only[mem_cons,not_mem_nil,or_false] at hq
  rcases hq with rfl|rfl|rfl|rfl
  ·exact A.tx _ ho
  ·refine A.ns _ (A.jn _ ?_ (Io A.ct (A.tx _ (by decide)) A.ln ps hp))
   cases ps with
   |nil=>exact absurd rfl hne
   |cons p ps=>exact λz=>nomatch z
  ·exact A.ct
  ·exact A.tx _ hc
theorem Ip{J:List Plan->Plan}{R:Plan->Prop}(A:All J R):∀(k:Nat) (t:Tr),t.size<=k->t.ok->R (bV J t).1/\(∀op a b,t=.bin op a b->∀p∈(bV J t).2.1::(bV J t).2.2,R p):=by
 have wd:∀ {s:List Nat},(∀c∈s,32<c/\c<128)->∀c∈s,31<c/\c<128:=λh c hc=>⟨by have:=(h c hc).1;omega,(h c hc).2⟩
 intro k
 induction k with
 |zero=>intro t h;cases t<;>simp[Tr.size] at h
 |succ k ih=>
  intro t hk ho;have parts:∀(o:List Nat) (ts:List Tr) (e:List Nat),(∀x∈o,31<x/\x<128)->(∀x∈e,31<x/\x<128)->Tr.sizes ts<=k->Tr.j9 ts->R (iJ J o (dH J ts) e):=λo ts e h1 h2 h3 h5=>by
   refine DE A o e h1 h2 λp hp=>?_
   rw[jO] at hp
   obtain⟨u,hu,rfl⟩:=List.mem_map.mp hp;exact(ih u (le_trans (wu hu) h3) (su h5 hu)).1
  cases t with
  |name s=>rw[Tr.ok] at ho;rw[bV];exact⟨A.tx _ (wd ho.2),λ_ _ _ z=>nomatch z⟩
  |num m=>rw[bV];exact⟨A.tx _ (DC m),λ_ _ _ z=>nomatch z⟩
  |call s ts=>
   rw[Tr.ok] at ho
   rw[bV];rw[Tr.size] at hk
   refine⟨parts _ ts _ (λx hx=>?_) (by decide) (by omega) ho.2.2,λ_ _ _ z=>nomatch z⟩;rcases List.mem_append.mp hx with hx|hx
   ·exact wd ho.1.2 x hx
   ·rw[List.mem_singleton.mp hx];decide
  |row ts=>
   rw[Tr.ok] at ho
   rw[bV];rw[Tr.size] at hk
   exact⟨parts _ ts _ (by decide) (by decide) (by omega) ho.2,λ_ _ _ z=>nomatch z⟩
  |bin op a b=>
   rw[Tr.ok] at ho
   rw[Tr.size] at hk
   obtain⟨a1,a2⟩:=ih a (by omega) ho.2.1;obtain⟨b1,_⟩:=ih b (by omega) ho.2.2;have hc:∀p∈(bZ J op a).1::(bZ J op a).2,R p:=by
    unfold bZ
    split
    ·rename_i e
     cases a with
     |bin op' x y=>exact a2 op' x y rfl
     |_=>cases e
    ·intro p hp
     rw[List.mem_singleton.mp hp];exact Vl A _ _ a1
   rw[p7];have hop:∀c∈[op,32],31<c/\c<128:=λc hc=>by
    simp only[mem_cons,not_mem_nil,or_false] at hc
    rcases hc with rfl|rfl
    ·rcases ho.1 with rfl|rfl|rfl<;>decide
    ·decide
   have hall:∀p∈(bZ J op a).1::((bZ J op a).2++dj J op b),R p:=λp hp=>by
    rw[<-cons_append] at hp
    rcases List.mem_append.mp hp with hp|hp
    ·exact hc p hp
    ·have hp:p∈[.line,.text [op,32],f7 J (fK op) b (bh J b)]:=hp
     simp only[mem_cons,not_mem_nil,or_false] at hp
     rcases hp with rfl|rfl|rfl
     ·exact A.ln
     ·exact A.tx _ hop
     ·exact Vl A _ _ b1
   refine⟨A.gr _ (A.jn _ (by simp) λq hq=>?_),λ_ _ _ _ p hp=>hall p hp⟩;simp only[mem_cons,not_mem_nil,or_false] at hq
   rcases hq with rfl|rfl
   ·exact hall _ mem_cons_self
   ·exact A.ns _ (A.jn _ (by unfold dj;simp) λp hp=>hall p (mem_cons_of_mem _ hp))
theorem DF(n:Nat):All (jn n) Plan.Flat:=⟨λps _ h=>yH (R:=Plan.Flat) (λc hc=>nomatch hc) (λ_ _ a b=>⟨a,b⟩) n ps h,λs h c hc=>by have:=h c hc;omega,trivial,trivial,λ_ h=>h,λ_ h=>h,λ_ h=>⟨h,h⟩⟩
theorem DH(n:Nat):All (jn n) Plan.Lay:=⟨λps _ h=>yH (R:=Plan.Lay) (λc hc=>nomatch hc) (λ_ _ a b=>⟨a,b⟩) n ps h,λs h c hc=>by have:=h c hc;omega,trivial,trivial,λ_ h=>h,λ_ h=>h,λ_ h=>⟨h,h⟩⟩
def iV(ps:List Plan):Nat:=(ps.map λp=>p.sides.length).foldr (· * ·) 1
theorem yZ(p:Plan)(ps:List Plan):iV (p::ps)=p.sides.length*iV ps:=rfl
theorem DI(ps qs:List Plan):iV (ps++qs)=iV ps*iV qs:=by
 induction ps with
 |nil=>show iV qs=1*_;omega
 |cons p ps ih=>rw[cons_append,yZ,yZ,ih,mul_assoc]
theorem Vm:∀(ps:List Plan) (p:Plan),(ps.foldl Plan.beside p).sides.length=p.sides.length*iV ps
 |[],p=>by show p.sides.length=p.sides.length*1;omega
 |q::ps,p=>by
  show(ps.foldl Plan.beside (.beside p q)).sides.length=_;rw[Vm ps,FQ,yZ,mul_assoc]
theorem i9.iV{J:List Plan->Plan}{n:Nat}(h:i9 J n)(ps:List Plan)(l:ps.length<=n):(J ps).sides.length=iV ps:=by
 rw[(h.eq ps l).sd];cases ps with
 |nil=>rfl
 |cons p ps=>rw[yZ];exact Vm ps p
noncomputable def gn:Nat->Nat|0=>1|d+1=>2*(gn d*(gn d*gn d))
theorem Vn{J:List Plan->Plan} (h:i9 J n)(hn:9<=n)(k:Nat)(t:Tr)(p:Plan):(f7 J k t p).sides.length=p.sides.length:=by
 unfold f7
 split
 ·rfl
 ·rw[h.iV _ (by show 3<=n;omega)]
  show 1*(p.sides.length*(1*1))=_;omega
theorem Vo(p:Plan):(grp p).sides.length=2*p.sides.length:=by
 show(Plan.choice (.flat p) p).sides.length=_;rw[FT];show p.sides.length+p.sides.length=_;omega
theorem DJ(B:Nat)(hB:1<=B)(ps:List Plan)(hl:ps.length<=3)(h:∀p∈ps,p.sides.length<=B):iV (gk ps)<=B*(B*B):=by
 have hb1:B*1<=B*B:=mul_le_mul_left _ hB;have hb2:B*B<=B*(B*B):=by have:=mul_le_mul_left B hb1;rwa [Nat.mul_one] at this
 have h1:iV [Plan.text [44],.line]=1:=rfl
 match ps,hl with
 |[],_=>show 1<=_;omega
 |[p],_=>
  have:=h p (by simp);show 1*(p.sides.length*1)<=_;omega
 |[p,q],_=>
  have i1:=h p (by simp);have i2:=h q (by simp);show 1*(p.sides.length*(1*(1*(q.sides.length*1))))<=_;have:=mul_le_mul i1 i2;simp only[one_mul,Nat.mul_one];omega
 |[p,q,r],_=>
  have i1:=h p (by simp);have i2:=h q (by simp);have i3:=h r (by simp);show 1*(p.sides.length*(1*(1*(q.sides.length*(1*(1*(r.sides.length*1)))))))<=_;have:=mul_le_mul i1 (mul_le_mul i2 i3);simp only[one_mul,Nat.mul_one];omega
theorem za:∀d,1<=gn d
 |0=>le_refl _
 |d+1=>by
  have:=za d;have h:=mul_le_mul this (mul_le_mul this this)
  show 1<=2*_;omega
theorem Vp{J:List Plan->Plan} (h:i9 J n)(hn:9<=n):∀(k:Nat) (t:Tr),t.size<=k->t.ok->t.deep<=3->(bV J t).1.sides.length<=gn t.deep/\(∀op a b,t=.bin op a b->iV ((bV J t).2.1::(bV J t).2.2)<=gn t.deep):=by
 have up:∀d,gn d<=gn (d+1):=λd=>by
  have h1:=za d;have h2:=mul_le_mul_left (gn d) (mul_le_mul h1 h1);show gn d<=2*_;omega
 have ups:∀d e,d<=e->gn d<=gn e:=λd e h=>by
  induction h with
  |refl=>exact le_refl _
  |step _ ih=>exact le_trans ih (up _)
 intro k
 induction k with
 |zero=>intro t h;cases t<;>simp[Tr.size] at h
 |succ k ih=>
  intro t hk ho hd;have parts:∀(o:List Nat) (ts:List Tr) (e:List Nat),Tr.sizes ts<=k->ts.length<=3->Tr.j9 ts->Tr.eN ts+1<=3->(iJ J o (dH J ts) e).sides.length<=gn (Tr.eN ts+1):=λo ts e h3 h4 h5 h6=>by
   have hlen:(dH J ts).length<=3:=by rw[jO,length_map];exact h4
   have i3:=DJ (gn (Tr.eN ts)) (za _) (dH J ts) hlen λp hp=>by
    rw[jO] at hp
    obtain⟨u,hu,rfl⟩:=List.mem_map.mp hp;have hd':=uJ hu;exact le_trans (ih u (le_trans (wu hu) h3) (su h5 hu) (by omega)).1 (ups _ _ hd')
   unfold iJ
   split
   ·exact za _
   ·have l:=qw (dH J ts)
    rw[Vo,h.iV _ (by show 4<=n;omega)];show 2*(1*((J (gk (dH J ts))).sides.length*(1*(1*1))))<=2*_;rw[h.iV _ (by omega)];omega
  cases t with
  |name s=>rw[bV];exact⟨le_refl _,λ_ _ _ z=>nomatch z⟩
  |num m=>rw[bV];exact⟨le_refl _,λ_ _ _ z=>nomatch z⟩
  |call s ts=>
   rw[Tr.ok] at ho
   rw[bV];rw[Tr.size] at hk
   exact⟨parts _ ts _ (by omega) ho.2.1 ho.2.2 hd,λ_ _ _ z=>nomatch z⟩
  |row ts=>
   rw[Tr.ok] at ho
   rw[bV];rw[Tr.size] at hk
   exact⟨parts _ ts _ (by omega) ho.1 ho.2 hd,λ_ _ _ z=>nomatch z⟩
  |bin op a b=>
   rw[Tr.ok] at ho
   rw[Tr.size] at hk
   have hd':max a.deep b.deep+1<=3:=hd;obtain⟨a1,a2⟩:=ih a (by omega) ho.2.1 (by omega);obtain⟨b1,_⟩:=ih b (by omega) ho.2.2 (by omega);have ua:=ups a.deep (max a.deep b.deep) (by omega);have ub:=ups b.deep (max a.deep b.deep) (by omega);have hl:=wk J a;have hc:iV ((bZ J op a).1::(bZ J op a).2)<=gn (max a.deep b.deep)/\(bZ J op a).2.length<=6:=by
    unfold bZ
    split
    ·rename_i e
     cases a with
     |bin op' x y=>exact⟨le_trans (a2 op' x y rfl) ua,by omega⟩
     |_=>cases e
    ·refine⟨?_,zero_le _⟩
     show(f7 J (fK op) a (bh J a)).sides.length*1<=_;rw[Vn h hn,Nat.mul_one];exact le_trans a1 ua
   have hk2:iV (dj J op b)<=gn (max a.deep b.deep):=by
    show 1*(1*((f7 J (fK op) b (bh J b)).sides.length*1))<=_;rw[Vn h hn,Nat.mul_one,one_mul,one_mul];exact le_trans b1 ub
   have hp:iV ((bZ J op a).1::((bZ J op a).2++dj J op b))<=gn (max a.deep b.deep)*gn (max a.deep b.deep):=by
    rw[<-cons_append,DI];exact mul_le_mul hc.1 hk2
   have hq:gn (max a.deep b.deep)*gn (max a.deep b.deep)<=gn (max a.deep b.deep)*(gn (max a.deep b.deep)*gn (max a.deep b.deep)):=by
    refine mul_le_mul_left _ ?_;have:=mul_le_mul_left (gn (max a.deep b.deep)) (za (max a.deep b.deep));omega
   rw[p7];refine⟨?_,λ_ _ _ _=>?_⟩
   ·have le:((bZ J op a).2++dj J op b).length=(bZ J op a).2.length+3:=by rw[length_append];rfl
    show(grp _).sides.length<=2*(gn (max a.deep b.deep)*(gn (max a.deep b.deep)*gn (max a.deep b.deep)));rw[Vo,h.iV _ (by show 2<=n;omega)];show 2*((bZ J op a).1.sides.length*((J ((bZ J op a).2++dj J op b)).sides.length*1))<=_;rw[h.iV _ (by omega),Nat.mul_one];rw[yZ] at hp
    omega
   ·show iV ((bZ J op a).1::((bZ J op a).2++dj J op b))<=2*(gn (max a.deep b.deep)*(gn (max a.deep b.deep)*gn (max a.deep b.deep)))
    omega
def jP:Plan->Bool
 |.text _=>true
 |.line=>true
 |.cut=>true
 |_=>false
def p8:Plan->List Nat
 |.text x=>x
 |.line=>[32]
 |_=>[]
noncomputable def gP:Plan->Str
 |.text _=>"text"
 |.line=>"line"
 |.cut=>"cut"
 |.nest _ _=>"nest"
 |.align _=>"align"
 |.flat _=>"flat"
 |.beside _ _=>"beside"
 |.choice _ _=>"choice"
theorem wz : ∀ {p:Plan} {r:Addr},aZ H p r->∃xs,H r=some (.tup (.str (gP p)::xs))
 |.text _,_,e=>⟨_,e⟩
 |.line,_,e=>⟨_,e⟩
 |.cut,_,e=>⟨_,e⟩
 |.nest _ _,_,⟨_,e,_⟩=>⟨_,e⟩
 |.align _,_,⟨_,e,_⟩=>⟨_,e⟩
 |.flat _,_,⟨_,e,_⟩=>⟨_,e⟩
 |.beside _ _,_,⟨_,_,e,_⟩=>⟨_,e⟩
 |.choice _ _,_,⟨_,_,e,_⟩=>⟨_,e⟩
inductive BP(vs:List V)(H:Hp)(Q:VK)(E':XK):Prop
 |mk (r:Addr) (p:Plan) (z0:vs=[.ref r]) (z1:aZ H p r) (z2:Q (.bl (jP p)) H):BP vs H Q E'
inductive zc(vs:List V)(H:Hp)(Q:VK)(E':XK):Prop
 |mk (r:Addr) (p:Plan) (z0:vs=[.ref r]) (z1:aZ H p r) (z2:jP p=true) (z3:Q (.str (tx (p8 p))) H):zc vs H Q E'
abbrev nF(t1 t2:Tok):List (Key×Value):=[(.inr "line",.str " " t1),(.inr "cut",.str "" t2)]
structure Ir(P:Program)(w:World)(mg:eV)(base:Heap)(dB:Addr)(t1 t2:Tok):Prop where
 mB:mg "BREAKS_IN_ONE_ROW"=some (.ref dB)
 sB:(dB==sysModules)=false
 dd:base.DictOf (eG P w) dB (nF t1 t2)
theorem Vq(t1 t2:Tok):valueAt (nF t1 t2) (Sum.inr "line":Key)=some (.str " " t1):=by simp[valueAt,nF]
theorem Vr(t1 t2:Tok):valueAt (nF t1 t2) (Sum.inr "cut":Key)=some (.str "" t2):=by
 have h:¬((("line":Str))="cut"):=by decide +kernel
 simp[valueAt,nF,h]
theorem DL(t1 t2:Tok){z:Str}(h1:¬(("line":Str)=z))(h2:¬(("cut":Str)=z)):valueAt (nF t1 t2) (Sum.inr z:Key)=none:=by simp[valueAt,nF,h1,h2]
def wA:Plan->Bool
 |.text _=>true
 |_=>false
theorem uN{a:Str}(h:¬a="text"):decide (V.str a=V.str "text")=false:=decide_eq_false λe=>h (V.str.inj e)
theorem Iu:∀p:Plan,decide (V.str (gP p)=V.str "text")=wA p
 |.text _=>decide_eq_true rfl
 |.line=>uN (a:="line") ⋯
 |.cut=>uN (a:="cut") ⋯
 |.nest _ _=>uN (a:="nest") ⋯
 |.align _=>uN (a:="align") ⋯
 |.flat _=>uN (a:="flat") ⋯
 |.beside _ _=>uN (a:="beside") ⋯
 |.choice _ _=>uN (a:="choice") ⋯
theorem DM(t1 t2:Tok)(p:Plan):(valueAt (nF t1 t2) (Sum.inr (gP p):Key)).isSome=(jP p && !wA p):=by
 cases p with
 |line=>show(valueAt (nF t1 t2) (Sum.inr "line":Key)).isSome=_;rw[Vq];rfl
 |cut=>show(valueAt (nF t1 t2) (Sum.inr "cut":Key)).isSome=_;rw[Vr];rfl
 |_=>simp only[gP];rw[DL _ _ ⋯ ⋯];rfl
theorem DS:cQ ["plan"] ["plan"] (cg Gn):=⟨rfl,rfl,rfl, ⋯,rfl, ⋯, ⋯⟩
theorem DT {t1 t2:Tok}(F:cA K "is_leaf" "is_leaf" Gn f fd)(B:Ir P w mg base dB t1 t2):aH P w K mg base aB 1 f fd ["plan"] BP:=by
 refine F.cU DS (λvs H Q E h=>?_) (λcdv A outer s H vs Q E hr h=>?_)
 ·obtain⟨r,p,rfl,_⟩:=h
  rfl
 obtain⟨r,p,rfl,hP,q⟩:=h;refine⟨_,aL (bx (TQ (vQ d8 (aF aN (a6 0) ak (λ_ _=>rfl)) aK (cP _)) (TJ (vQ (tm B.sB B.dd) (aF aN (a6 0) ak (λ_ _=>rfl)) (oO rfl B.mB (v:=.ref dB) rfl) rfl)))),?_⟩;obtain⟨xs,hx⟩:=wz hP;refine⟨_,rfl,r,_,_,.str (gP p),rfl,rfl,a9.of hx,(by show dN (V.str (gP p)::xs) ((0:Nat):Int)=_;exact gF rfl),rfl,_,rfl,?_⟩;rw[Iu];cases c:wA p with
 |true=>
  have e:jP p=true:=by cases p<;>first|rfl|cases c
  rw[e] at q
  exact fu q
 |false=>
  refine gM ⟨_,rfl,r,_,_,.str (gP p),rfl,rfl,a9.of hx,(by show dN (V.str (gP p)::xs) ((0:Nat):Int)=_;exact gF rfl),gP p,rfl,rfl,?_⟩;rw[DM,c];have e:(jP p && !false)=jP p:=by cases jP p<;>rfl
  rw[e];exact q
abbrev nG:List V:=[.str "nest",.str "align",.str "flat"]
structure Iv(K:Frag)(mg:eV)(aW:Addr):Prop where
 mW:mg "WRAPPERS"=some (.ref aW)
 sq:∀H,a9 K H aW nG
theorem Vs:∀p:Plan,inV (.str (gP p)) nG = !jf p
 |.text _=>by show inV (.str "text") nG=false;decide +kernel
 |.line=>by show inV (.str "line") nG=false;decide +kernel
 |.cut=>by show inV (.str "cut") nG=false;decide +kernel
 |.nest _ _=>by show inV (.str "nest") nG=true;decide +kernel
 |.align _=>by show inV (.str "align") nG=true;decide +kernel
 |.flat _=>by show inV (.str "flat") nG=true;decide +kernel
 |.beside _ _=>by show inV (.str "beside") nG=false;decide +kernel
 |.choice _ _=>by show inV (.str "choice") nG=false;decide +kernel
inductive zf(vs:List V)(H:Hp)(Q:VK)(E':XK):Prop
 |mk (r:Addr) (p:Plan) (z0:vs=[.ref r]) (z1:aZ H p r) (z2:∀a,aZ H (zk8 p) a->Q (.ref a) H):zf vs H Q E'
inductive Iw(vs:List V)(H:Hp)(Q:VK)(E':XK):Prop
 |mk (r:Addr) (c:Plan) (z0:vs=[.ref r]) (z1:aZ H c r) (z2:jf c=true) (z3:c.Lay) (z4:c.deep<=60) (z5:∀(l:Addr) (as:List Addr) (H':Hp),Same H H'->H l=none->H' l=some (.lst (as.map V.ref))->cM H' as (g8 c)->Q (.ref l) H'):Iw vs H Q E'
inductive Iz(vs:List V)(H:Hp)(Q:VK)(E':XK):Prop
 |mk (r:Addr) (p:Plan) (z0:vs=[.ref r]) (z1:aZ H p r) (z2:p.Lay) (z3:p.deep<=60) (z4:p.size<=100000) (z5:∀(l:Addr) (ts:List Addr) (H':Hp),Same H H'->H l=none->H' l=some (.lst (ts.map V.ref))->k7 H' ts (cO p).reverse->Q (.ref l) H'):Iz vs H Q E'
theorem Vt:cQ ["plan"] ["plan"] (cg Gq):=⟨rfl,rfl,rfl, ⋯,rfl, ⋯, ⋯⟩
theorem DU(F:cA K "core_of" "core_of" Gq f fd)(T:Iv K mg aW):aH P w K mg base aB 1 f fd ["plan"] zf:=by
 refine F.cU Vt (λvs H Q E h=>?_) (λcdv A outer s H vs Q E hr h=>?_)
 ·obtain⟨r,p,rfl,_⟩:=h
  rfl
 obtain⟨r,p,rfl,hP,q⟩:=h;have nd:=Vt.nd;refine⟨_,au (nT PassesOwn.never (cI qY (aF aN (a6 0) ak (λ_ _=>rfl)) (oO rfl T.mW (v:=.ref aW) rfl) rfl) (aL (aO (i:=0) nd rfl (Or.inl rfl) (aF aN (a6 0) (uy uc ak) (λ_ _=>rfl))))) (aL (bx (a6 0))),?_⟩;refine⟨λm σ H'=>H'=H/\∃r' p',σ=[some (.ref r')]/\aZ H p' r'/\zk8 p'=zk8 p/\m=p'.size,⟨_,rfl,r,p,rfl,hP,rfl,rfl⟩,?_⟩
 rintro m σ H' ⟨rfl,r',p',rfl,hP',ec,rfl⟩
 obtain⟨xs,hx⟩:=wz hP';refine⟨_,rfl,r',_,_,.str (gP p'),rfl,rfl,a9.of hx,(by show dN (V.str (gP p')::xs) ((0:Nat):Int)=_;exact gF rfl),aW,_,rfl,.inr (T.sq H'),rfl,rfl,_,rfl,?_⟩;show if inV (.str (gP p')) nG=true then _ else _
 rw[Vs];have fin:jf p'=true->Q (.ref r') H':=λh=>q r' (by rw[<-ec,BD h];exact hP')
 have step:∀(p2:Plan) (a2:Addr) (ys:List V),H' r'=some (.tup ys)->aZ H' p2 a2->zk8 p2=zk8 p'->p2.size<p'.size->dN ys (-1)=some (.ref a2)->
   ∃N:St->Hp->Prop,(∀σ' fQ,N σ' fQ->∃m',m'<p'.size/\fQ=H'/\∃r' p',σ'=[some (.ref r')]/\aZ H' p' r'/\zk8 p'=zk8 p/\m'=p'.size)/\
    qU (um K) (jB 0) (R5 (rU λi=>V.int (-i)) (tC (.int 1))) [some (V.ref r')] H' λv0 H2=>N (([some (V.ref r')]:St).set 0 (some v0)) H2:=λp2 a2 ys hr2 hp2 e2 hs hat=>
  ⟨λσ' fQ=>∃m',m'<p'.size/\fQ=H'/\∃r' p',σ'=[some (.ref r')]/\aZ H' p' r'/\zk8 p'=zk8 p/\m'=p'.size,λσ' fQ z=>z,_,rfl,_,rfl,r',ys,_,.ref a2,rfl,rfl,a9.of hr2,hat,p2.size,hs,rfl,a2,p2,rfl,hp2,e2.trans ec,rfl⟩
 cases p' with
 |nest n p2=>obtain⟨a2,e,q2⟩:=hP';exact fu (step p2 a2 _ e q2 rfl (by simp only[Plan.size];omega) rfl)
 |align p2=>obtain⟨a2,e,q2⟩:=hP';exact fu (step p2 a2 _ e q2 rfl (by simp only[Plan.size];omega) rfl)
 |flat p2=>obtain⟨a2,e,q2⟩:=hP';exact fu (step p2 a2 _ e q2 rfl (by simp only[Plan.size];omega) rfl)
 |_=>exact gM ⟨_,rfl,fin rfl⟩
theorem Vu:cQ ["core","first","second"] ["core"] (cg Gr):=⟨rfl,rfl,rfl, ⋯,rfl, ⋯, ⋯⟩
theorem DZ{fc:Addr} (F:cA K "cores_within" "cores_within" Gr f fd)(GL:aH P w K mg base aB 1 g gd ["plan"] BP)(bL:Binds K gd ["plan"] [])(kL:keepIn K (.ref g)=true)(mL:mg "is_leaf"=some (.ref g))
  (GC:aH P w K mg base aB 1 fc cD ["plan"] zf) (bC:Binds K cD ["plan"] []) (kC:keepIn K (.ref fc)=true) (mC:mg "core_of"=some (.ref fc)):aH P w K mg base aB 2 f fd ["core"] Iw:=by
 refine F.cU Vu (λvs H Q E h=>?_) (λcdv A outer s H vs Q E hr h=>?_)
 ·obtain⟨r,c,rfl,_⟩:=h
  rfl
 obtain⟨r,c,rfl,hP,hc,hl,hd,q⟩:=h;have nd:=Vu.nd;have hu:=hr.units
 refine⟨_,au (cN (Bc (c9 GL hr rfl mL kL bL .nil aU (aq (a6 0) a7))) (aL (bx (cX a7))) cW)<|
  au (aO (i:=1) nd rfl (Or.inl rfl) (c9 GC hr rfl mC kC bC .nil aU (cF (aF aN (a6 0) ak (λ_ _=>rfl)) a7)))<|
  au (aO (i:=2) nd rfl (Or.inl rfl) (c9 GC hr rfl mC kC bC .nil aU (cF (aF aN (a6 0) ak (λ_ _=>rfl)) a7)))<|
  aL (bx (jL (cI (Td hu) (a6 1) (a6 2) (cP _)) (cX (aq (a6 1) a7)) (cX (aq (a6 1) (aq (a6 2) a7))))),?_⟩
 refine⟨_,rfl,r,c,rfl,hP,_,rfl,?_⟩;have leaf:jP c=true->g8 c=[]:=by cases c<;>first|(intro _;rfl)|(intro h;cases h)
 cases c with
 |beside a b=>
  obtain⟨x,y,hr2,ha,hb⟩:=hP;have hd':max a.deep b.deep+1<=60:=hd;have ek:g8 (.beside a b)=iH a b:=rfl;refine gM ⟨_,rfl,r,_,_,.ref x,rfl,rfl,a9.of hr2,rfl,x,a,rfl,ha,λa1 h1=>?_⟩;refine⟨_,rfl,r,_,_,.ref y,rfl,rfl,a9.of hr2,rfl,y,b,rfl,hb,λa2 h2=>?_⟩;have k1:=rY a;have k2:=qt (zk8 a);refine⟨_,rfl,_,rfl,dW (zk8 a),dW (zk8 b),h1.dv,h2.dv,o4 _ (o3 hl.1),o4 _ (o3 hl.2),by omega,_,rfl,?_⟩;rw[w9];refine jH (λe=>?_) (λe=>?_)
  ·have e':zk8 a=zk8 b:=of_decide_eq_true e
   refine⟨_,rfl,aC,λl hl=>q l [a1] _ (ao hl _) hl a8 ?_⟩;rw[ek];unfold iH;rw[if_pos e'];exact .cons (h1.mono (.of (ao hl _))) .nil
  ·have e':¬zk8 a=zk8 b:=λz=>e (decide_eq_true z)
   refine⟨_,rfl,_,rfl,aC,λl hl=>q l [a1,a2] _ (ao hl _) hl a8 ?_⟩;rw[ek];unfold iH;rw[if_neg e'];exact .cons (h1.mono (.of (ao hl _))) (.cons (h2.mono (.of (ao hl _))) .nil)
 |choice a b=>
  obtain⟨x,y,hr2,ha,hb⟩:=hP;have hd':max a.deep b.deep+1<=60:=hd;have ek:g8 (.choice a b)=iH a b:=rfl;refine gM ⟨_,rfl,r,_,_,.ref x,rfl,rfl,a9.of hr2,rfl,x,a,rfl,ha,λa1 h1=>?_⟩;refine⟨_,rfl,r,_,_,.ref y,rfl,rfl,a9.of hr2,rfl,y,b,rfl,hb,λa2 h2=>?_⟩;have k1:=rY a;have k2:=qt (zk8 a);refine⟨_,rfl,_,rfl,dW (zk8 a),dW (zk8 b),h1.dv,h2.dv,o4 _ (o3 hl.1),o4 _ (o3 hl.2),by omega,_,rfl,?_⟩;rw[w9];refine jH (λe=>?_) (λe=>?_)
  ·have e':zk8 a=zk8 b:=of_decide_eq_true e
   refine⟨_,rfl,aC,λl hl=>q l [a1] _ (ao hl _) hl a8 ?_⟩;rw[ek];unfold iH;rw[if_pos e'];exact .cons (h1.mono (.of (ao hl _))) .nil
  ·have e':¬zk8 a=zk8 b:=λz=>e (decide_eq_true z)
   refine⟨_,rfl,_,rfl,aC,λl hl=>q l [a1,a2] _ (ao hl _) hl a8 ?_⟩;rw[ek];unfold iH;rw[if_neg e'];exact .cons (h1.mono (.of (ao hl _))) (.cons (h2.mono (.of (ao hl _))) .nil)
 |nest _ _=>cases hc
 |align _=>cases hc
 |flat _=>cases hc
 |_=>exact fu ⟨aC,λl hl=>q l [] _ (ao hl _) hl a8 .nil⟩
structure Vv(r C W:Addr)(p:Plan)(H:Hp)(n:Nat)(σ:St)(H':Hp)(st done:List Plan)(ts ws:List Addr):Prop where
 uO:∃v v':Option V,σ=[some (.ref r),some (.ref C),some (.ref W),v,v']
 n_:n=(oY st).length
 same:Same H H'
 atC:H' C=some (.lst (ts.map V.ref))
 IK:k7 H' ts done
 atW:H' W=some (.lst (ws.map V.ref))
 sG:cM H' ws st.reverse
 ok:∀q∈st,jf q=true/\q.Lay/\q.deep<=60
 all:done++oY st=(cO p).reverse
theorem Ee{c:Plan}(h:q∈g8 c)(hl:c.Lay)(hd:c.deep<=60):jf q=true/\q.Lay/\q.deep<=60:=by
 refine⟨BI h,?_⟩;have two:∀a b:Plan,q∈iH a b->a.Lay->b.Lay->a.deep<=60->b.deep<=60->q.Lay/\q.deep<=60:=λa b hq la lb da db=>by
  have k1:=rY a;have k2:=rY b;unfold iH at hq
  split at hq
  ·simp at hq;rw[hq];exact⟨o3 la,by omega⟩
  ·simp at hq
   rcases hq with rfl|rfl
   ·exact⟨o3 la,by omega⟩
   ·exact⟨o3 lb,by omega⟩
 cases c with
 |beside a b=>
  have hd':max a.deep b.deep+1<=60:=hd;exact two a b h hl.1 hl.2 (by omega) (by omega)
 |choice a b=>
  have hd':max a.deep b.deep+1<=60:=hd;exact two a b h hl.1 hl.2 (by omega) (by omega)
 |_=>cases h
theorem Vw:cQ ["plan","cores","waiting","core","within"] ["plan"] (cg Gs):=⟨rfl,rfl,rfl, ⋯,rfl, ⋯, ⋯⟩
theorem Eg{fc:Addr} (F:cA K "cores_from_outside" "cores_from_outside" Gs f fd)(ml:mg "len"=none)(GW:aH P w K mg base aB 2 g gd ["core"] Iw)(bW:Binds K gd ["core"] [])(kW:keepIn K (.ref g)=true)(mW:mg "cores_within"=some (.ref g))
  (GC:aH P w K mg base aB 1 fc cD ["plan"] zf) (bC:Binds K cD ["plan"] []) (kC:keepIn K (.ref fc)=true) (mC:mg "core_of"=some (.ref fc)):aH P w K mg base aB 3 f fd ["plan"] Iz:=by
 refine F.cU Vw (λvs H Q E h=>?_) (λcdv A outer s H vs Q E hr h=>?_)
 ·obtain⟨r,p,rfl,_⟩:=h
  rfl
 obtain⟨r,p,rfl,hP,hl,hd,hz,q⟩:=h;have nd:=Vw.nd
 refine⟨_,au (aO (i:=1) nd rfl (Or.inl rfl) (cX a7))<|
  au (aO (i:=2) nd rfl (Or.inl rfl) (cX (dw (c9 GC (hr.mono (by decide)) rfl mC kC bC .nil aU (aq (a6 0) a7)) a7)))<|
  au (nT PassesOwn.never (nY (a6 2) (λ_=>rfl)) (
   au (aO (i:=3) nd rfl (Or.inl rfl) (uE plainAttrs_list slot_list_pop type_list_pop uq (a6 2)))<|
   au (aO (i:=4) nd rfl (Or.inl rfl) (c9 GW hr rfl mW kW bW .nil aU (aq (a6 3) a7)))<|
   au (fZ (gG plainAttrs_list PySem.F.slot_list_append PySem.F.type_list_append ju (a6 1) (d0 (bf (aq (a6 3) (dw (j4 pW rfl ml PySem.boot_len (aq (a6 4) a7)) a7))) a7)))<|
   aL (fZ (gG plainAttrs_list slot_list_extend type_list_extend qZ (a6 2) (aq (a6 4) a7)))))<|
  aL (bx (a6 1)),?_⟩
 refine⟨aC,λCL hCL=>?_⟩;have s0:=ao hCL (.lst []);refine⟨_,rfl,r,p,rfl,hP.mono (.of s0),λa0 ha0=>⟨aC,λWL BR=>?_⟩⟩;have s1:=ao BR (.lst [.ref a0]);have nW:H WL=none:=s0.free BR;have ne:CL≠WL:=λz=>by rw[<-z,a8] at BR;cases BR
 refine⟨λn σ H'=>∃st done ts ws,Vv r CL WL p H n σ H' st done ts ws,⟨(oY [zk8 p]).length,[zk8 p],[],[],[a0], ?init⟩, ?turn⟩
 case init=>
  refine⟨⟨_,_,rfl⟩,rfl,s0.trans s1,by rw[aJ ne,a8];rfl,.nil,a8,.cons (ha0.mono (.of s1)) .nil,λq hq=>?_,?_⟩
  ·rw[List.mem_singleton.mp hq]
   exact⟨rW p,o3 hl,le_trans (rY p) hd⟩
  ·simp[oY,vZ]
 case turn=>
  rintro n σ H' ⟨st,done,ts,ws,O⟩
  obtain⟨v,v',rfl⟩:=O.uO;refine⟨_,rfl,_,.inl ⟨_,aG.of O.atW,rfl⟩,?_⟩;cases st with
  |nil=>
   have ew:ws=[]:=by have:=O.sG;cases this;rfl
   subst ew;refine aP (by simp) ?_;have e:done=(cO p).reverse:=by have:=O.all;simpa [oY] using this
   refine⟨_,rfl,q CL ts H' O.same hCL O.atC ?_⟩;rw[<-e];exact O.IK
  |cons x rst=>
   obtain⟨ys,a,ex,hys,hx⟩:∃ys a,ws=ys++[a]/\cM H' ys rst.reverse/\aZ H' x a:=by
    have z:=O.sG;rw[reverse_cons] at z
    exact rR z
   subst ex;refine cG (by simp) ?_;have okx:=O.ok x mem_cons_self;have hcl:=(oX p).1;have hall:=congrArg List.length O.all;rw[length_append,length_reverse] at hall
   have hcp:=BM (x::rst);rw[length_cons] at hcp
   have hyl:=nA hys;rw[length_reverse] at hyl
   have hal:=lQ O.IK;refine⟨λσ' fQ=>∃n',n'<n/\∃st' Ex ts' ws',Vv r CL WL p H n' σ' fQ st' Ex ts' ws',λσ' fQ z=>z,?_⟩;have zj:((ys++[a]).map V.ref)[((ys++[a]).map V.ref).length - 1]? = some (.ref a):=by simp
   refine⟨_,rfl,.inl ⟨rfl,_,aG.of O.atW⟩,WL,_,_,rfl,rfl,O.atW,zj,?_⟩;have ed:((ys++[a]).map V.ref).dropLast=ys.map V.ref:=by rw[map_append];exact dropLast_concat
   rw[ed];have u1:bQ H' (upd H' WL (.lst (ys.map V.ref))):=dX O.atW;have g1:Same H (upd H' WL (.lst (ys.map V.ref))):=k6 O.same nW _;have w1:(upd H' WL (.lst (ys.map V.ref))) WL=some (.lst (ys.map V.ref)):=a8;have p1:(upd H' WL (.lst (ys.map V.ref))) CL=some (.lst (ts.map V.ref)):=by rw[aJ ne];exact O.atC
   have hx1:=hx.mono u1;have sI:=cM.mono u1 hys;have EA:=k7.mono u1 O.IK
   generalize upd H' WL (.lst (ys.map V.ref))=H1 at*
   refine⟨_,rfl,a,x,rfl,hx1,okx.1,okx.2.1,okx.2.2,λl1 ks H2 s2 n2 e2 hks=>?_⟩;have kl:=nA hks;have kl2:=BF x;have neW:l1≠WL:=λz=>by rw[z,w1] at n2;cases n2
   have vC:l1≠CL:=λz=>by rw[z,p1] at n2;cases n2
   refine⟨_,rfl,.inl ⟨rfl,_,aG.of (s2 _ _ p1)⟩,_,rfl,_,rfl,l1,_,rfl,.inl (aG.of e2),aC,λt ht=>?_⟩;have EB:((ks.map V.ref).length:Int)=(((g8 x).length:Nat):Int):=by rw[length_map,kl]
   rw[EB];have s3:=ao ht (.tup [.ref a,.int (((g8 x).length:Nat):Int)]);have p3:=s3 _ _ (s2 _ _ p1);have w3:=s3 _ _ (s2 _ _ w1);have l3:=s3 _ _ e2;have c3:wg (upd H2 t (.tup [.ref a,.int (((g8 x).length:Nat):Int)])) t x:=⟨a,a8,hx1.mono (.of (s2.trans s3))⟩;have g3:=g1.trans (s2.trans s3);have EC:=cM.mono (.of s3) hks;have BW:=cM.mono (.of (s2.trans s3)) sI;have ED:=k7.mono (.of (s2.trans s3)) EA
   generalize upd H2 t (.tup [.ref a,.int (((g8 x).length:Nat):Int)])=H3 at*
   refine⟨CL,_,_,rfl,rfl,p3,lt_of_lt_of_le (show(ts.map V.ref).length<1000001 by rw[length_map];omega) (d4 (by omega)),?_⟩;have u4:bQ H3 (upd H3 CL (.lst (ts.map V.ref++[.ref t]))):=dX p3;have w4:(upd H3 CL (.lst (ts.map V.ref++[.ref t]))) WL=some (.lst (ys.map V.ref)):=by rw[aJ ne.symm];exact w3
   have l4:(upd H3 CL (.lst (ts.map V.ref++[.ref t]))) l1=some (.lst (ks.map V.ref)):=by rw[aJ vC];exact l3
   have p4:(upd H3 CL (.lst (ts.map V.ref++[.ref t]))) CL=some (.lst ((ts++[t]).map V.ref)):=by rw[a8,map_append];rfl
   have g4:Same H (upd H3 CL (.lst (ts.map V.ref++[.ref t]))):=k6 g3 hCL _;have EE:k7 (upd H3 CL (.lst (ts.map V.ref++[.ref t]))) (ts++[t]) (done++[x]):=iU (k7.mono u4 ED) (.cons (c3.mono u4) .nil);have EF:=cM.mono u4 EC;have EG:=cM.mono u4 BW
   generalize upd H3 CL (.lst (ts.map V.ref++[.ref t]))=H4 at*
   refine⟨_,rfl,.inl ⟨rfl,_,aG.of w4⟩,_,rfl,WL,l1,_,_,rfl,rfl,w4,l4,d4 (by rw[length_map,length_map];omega),?_⟩;have u5:bQ H4 (upd H4 WL (.lst (ys.map V.ref++ks.map V.ref))):=dX w4;have Vx:=BH okx.1 rst;refine⟨_,?_,(g8 x).reverse++rst,done++[x],ts++[t],ys++ks,⟨_,_,rfl⟩,rfl,k6 g4 nW _,by rw[aJ ne];exact p4,k7.mono u5 EE,by rw[a8,map_append],?_,λq hq=>?_,?_⟩
   ·rw[O.n_,Vx,length_cons];omega
   ·rw[reverse_append,reverse_reverse]
    exact cM.append (cM.mono u5 EG) (cM.mono u5 EF)
   ·rcases List.mem_append.mp hq with z|z
    ·exact Ee (List.mem_reverse.mp z) okx.2.1 okx.2.2
    ·exact O.ok q (mem_cons_of_mem _ z)
   ·rw[append_assoc,<-O.all,Vx];rfl
inductive Raw where
 |text (n:Nat)|brk|nest (n i:Nat)|align (i:Nat)|beside (i j:Nat)|choice (i j:Nat)
 deriving DecidableEq
variable {T T':List Raw}
inductive Nd where
 |text (n:Nat)|brk|nest (n:Nat) (a:Nd)|align (a:Nd)|beside (a b:Nd)|choice (a b:Nd)
 deriving DecidableEq
variable {a b:Nd}
noncomputable def d7:Raw->List Key
 |.text n=>[.inr "text",.inl (n:Nat)]
 |.brk=>[.inr "break"]
 |.nest n i=>[.inr "nest",.inl (n:Nat),.inl (i:Nat)]
 |.align i=>[.inr "align",.inl (i:Nat)]
 |.beside i j=>[.inr "beside",.inl (i:Nat),.inl (j:Nat)]
 |.choice i j=>[.inr "choice",.inl (i:Nat),.inl (j:Nat)]
theorem Vy:¬(("beside":Str)="choice"):=by decide +kernel
theorem Vz:¬(("beside":Str)="nest"):=by decide +kernel
theorem VB:¬(("choice":Str)="nest"):=by decide +kernel
theorem VD:¬(("text":Str)="align"):=by decide +kernel
theorem VF:∀ {r r':Raw},d7 r=d7 r'->r=r'
 |.text n,.text m,h=>by
  simp[d7] at h
  have h1:n=m:=by omega
  rw[h1]
 |.brk,.brk,_=>rfl
 |.nest n i,.nest m j,h=>by
  simp[d7] at h
  have h1:n=m:=by omega
  have h2:i=j:=by omega
  rw[h1,h2]
 |.align i,.align j,h=>by
  simp[d7] at h
  have h1:i=j:=by omega
  rw[h1]
 |.beside i j,.beside k l,h=>by
  simp[d7] at h
  have h1:i=k:=by omega
  have h2:j=l:=by omega
  rw[h1,h2]
 |.choice i j,.choice k l,h=>by
  simp[d7] at h
  have h1:i=k:=by omega
  have h2:j=l:=by omega
  rw[h1,h2]
 |.text n,.brk,h=>by simp[d7] at h
 |.text n,.nest _ _,h=>by simp[d7] at h
 |.text n,.align _,h=>by simp[d7] at h;exact absurd h.1 VD
 |.text n,.beside _ _,h=>by simp[d7] at h
 |.text n,.choice _ _,h=>by simp[d7] at h
 |.brk,.text _,h=>by simp[d7] at h
 |.brk,.nest _ _,h=>by simp[d7] at h
 |.brk,.align _,h=>by simp[d7] at h
 |.brk,.beside _ _,h=>by simp[d7] at h
 |.brk,.choice _ _,h=>by simp[d7] at h
 |.nest _ _,.text _,h=>by simp[d7] at h
 |.nest _ _,.brk,h=>by simp[d7] at h
 |.nest _ _,.align _,h=>by simp[d7] at h
 |.nest _ _,.beside _ _,h=>by simp[d7] at h;exact absurd h.1.symm Vz
 |.nest _ _,.choice _ _,h=>by simp[d7] at h;exact absurd h.1.symm VB
 |.align _,.text _,h=>by simp[d7] at h;exact absurd h.1.symm VD
 |.align _,.brk,h=>by simp[d7] at h
 |.align _,.nest _ _,h=>by simp[d7] at h
 |.align _,.beside _ _,h=>by simp[d7] at h
 |.align _,.choice _ _,h=>by simp[d7] at h
 |.beside _ _,.text _,h=>by simp[d7] at h
 |.beside _ _,.brk,h=>by simp[d7] at h
 |.beside _ _,.nest _ _,h=>by simp[d7] at h;exact absurd h.1 Vz
 |.beside _ _,.align _,h=>by simp[d7] at h
 |.beside _ _,.choice _ _,h=>by simp[d7] at h;exact absurd h.1 Vy
 |.choice _ _,.text _,h=>by simp[d7] at h
 |.choice _ _,.brk,h=>by simp[d7] at h
 |.choice _ _,.nest _ _,h=>by simp[d7] at h;exact absurd h.1 VB
 |.choice _ _,.align _,h=>by simp[d7] at h
 |.choice _ _,.beside _ _,h=>by simp[d7] at h;exact absurd h.1.symm Vy
def sJ(k:Nat):Raw->Prop
 |.text _=>True
 |.brk=>True
 |.nest _ i=>i<k
 |.align i=>i<k
 |.beside i j=>i<k/\j<k
 |.choice i j=>i<k/\j<k
theorem sJ.mono{k':Nat}(h:k<=k'):∀ {r:Raw},sJ k r->sJ k' r
 |.text _,_=>trivial
 |.brk,_=>trivial
 |.nest _ _,q=>lt_of_lt_of_le q h
 |.align _,q=>lt_of_lt_of_le q h
 |.beside _ _,q=>⟨lt_of_lt_of_le q.1 h,lt_of_lt_of_le q.2 h⟩
 |.choice _ _,q=>⟨lt_of_lt_of_le q.1 h,lt_of_lt_of_le q.2 h⟩
def fV(g:Nat->Nat->Nat):Option Nat->Option Nat->Option Nat
 |some a,some b=>some (g a b)
 |_,_=>none
noncomputable def zl9(L:List (Option Nat)):Raw->Option Nat
 |.text n=>some n
 |.beside i j=>fV (· + ·) (L.getD i none) (L.getD j none)
 |.choice i j=>fV min (L.getD i none) (L.getD j none)
 |_=>none
structure sO(T:List Raw)(L:List (Option Nat)):Prop where
 len:L.length=T.length
 kid:∀(k:Nat) (r:Raw),T[k]? = some r->sJ k r
 uP:∀(k:Nat) (r:Raw),T[k]? = some r->L[k]? = some (zl9 L r)
 nodup:T.Nodup
theorem VG {x:Option Nat}{r:Raw}(h:sJ L.length r):zl9 (L++[x]) r=zl9 L r:=by
 have g:∀i,i<L.length->(L++[x]).getD i none=L.getD i none:=λi hi=>by
  rw[getD_eq_getElem?_getD,getD_eq_getElem?_getD,getElem?_append_left hi]
 cases r with
 |beside i j=>show fV _ _ _=fV _ _ _;rw[g i h.1,g j h.2]
 |choice i j=>show fV _ _ _=fV _ _ _;rw[g i h.1,g j h.2]
 |_=>rfl
theorem sO.nil:sO [] []:=⟨rfl,λk r h=>by simp at h,λk r h=>by simp at h,nodup_nil⟩
theorem sO.snoc  (w:sO T L){r:Raw}(hr:sJ T.length r)(hn:r∉T):sO (T++[r]) (L++[zl9 L r]):=by
 refine⟨by rw[length_append,length_append,w.len];rfl,λk q h=>?_,λk q h=>?_,?_⟩
 ·by_cases hk:k<T.length
  ·rw[getElem?_append_left hk] at h;exact w.kid k q h
  ·have hlt:=(List.getElem?_eq_some_iff.mp h).1
   rw[length_append,length_singleton] at hlt
   have:k=T.length:=by omega
   subst this
   simp at h
   rw[<-h];exact hr
 ·by_cases hk:k<T.length
  ·rw[getElem?_append_left hk] at h
   rw[getElem?_append_left (by rw[w.len];exact hk),w.uP k q h,VG ((w.kid k q h).mono (by rw[w.len];omega))]
  ·have hlt:=(List.getElem?_eq_some_iff.mp h).1
   rw[length_append,length_singleton] at hlt
   have:k=T.length:=by omega
   subst this
   simp at h
   rw[<-h,VG (by rw[w.len];exact hr)];rw[<-w.len];simp
 ·rw[List.nodup_append]
  exact⟨w.nodup,by simp,λa ha b hb e=>by rw[List.mem_singleton.mp hb] at e;exact hn (e▸ha)⟩
def cj(T:List Raw):Nat->Nd->Prop
 |k,.text n=>T[k]? = some (.text n)
 |k,.brk=>T[k]? = some .brk
 |k,.nest n a=>∃i,T[k]? = some (.nest n i)/\cj T i a
 |k,.align a=>∃i,T[k]? = some (.align i)/\cj T i a
 |k,.beside a b=>∃i j,T[k]? = some (.beside i j)/\cj T i a/\cj T j b
 |k,.choice a b=>∃i j,T[k]? = some (.choice i j)/\cj T i a/\cj T j b
def Pre(T T':List Raw):Prop:=∀(k:Nat) (r:Raw),T[k]? = some r->T'[k]? = some r
theorem Pre.refl(T:List Raw):Pre T T:=λ_ _ h=>h
theorem Pre.trans{a b c:List Raw}(h:Pre a b)(h':Pre b c):Pre a c:=λk r e=>h' k r (h k r e)
theorem Pre.app(T M:List Raw):Pre T (T++M):=λk r h=>by
 rw[getElem?_append_left (List.getElem?_eq_some_iff.mp h).1];exact h
theorem cj.mono{T T':List Raw}(h:Pre T T'):∀ {a:Nd} {k:Nat},cj T k a->cj T' k a
 |.text _,_,e=>h _ _ e
 |.brk,_,e=>h _ _ e
 |.nest _ _,_,⟨i,e,q⟩=>⟨i,h _ _ e,cj.mono h q⟩
 |.align _,_,⟨i,e,q⟩=>⟨i,h _ _ e,cj.mono h q⟩
 |.beside _ _,_,⟨i,j,e,q,q'⟩=>⟨i,j,h _ _ e,cj.mono h q,cj.mono h q'⟩
 |.choice _ _,_,⟨i,j,e,q,q'⟩=>⟨i,j,h _ _ e,cj.mono h q,cj.mono h q'⟩
theorem cj.lt : ∀ {a:Nd} {k:Nat},cj T k a->k<T.length
 |.text _,_,e=>(List.getElem?_eq_some_iff.mp e).1
 |.brk,_,e=>(List.getElem?_eq_some_iff.mp e).1
 |.nest _ _,_,⟨_,e,_⟩=>(List.getElem?_eq_some_iff.mp e).1
 |.align _,_,⟨_,e,_⟩=>(List.getElem?_eq_some_iff.mp e).1
 |.beside _ _,_,⟨_,_,e,_,_⟩=>(List.getElem?_eq_some_iff.mp e).1
 |.choice _ _,_,⟨_,_,e,_,_⟩=>(List.getElem?_eq_some_iff.mp e).1
theorem cj.one{T:List Raw}:∀ {a b:Nd} {k:Nat},cj T k a->cj T k b->a=b
 |.text n,b,k,e,e'=>by
  have e:T[k]? = some (.text n):=e;cases b with
  |text m=>have e':T[k]? = some (.text m):=e';rw[e] at e';cases e';rfl
  |brk=>have e':T[k]? = some .brk:=e';rw[e] at e';cases e'
  |nest m c=>obtain⟨_,e',_⟩:=e';rw[e] at e';cases e'
  |align c=>obtain⟨_,e',_⟩:=e';rw[e] at e';cases e'
  |beside c d=>obtain⟨_,_,e',_⟩:=e';rw[e] at e';cases e'
  |choice c d=>obtain⟨_,_,e',_⟩:=e';rw[e] at e';cases e'
 |.brk,b,k,e,e'=>by
  have e:T[k]? = some .brk:=e;cases b with
  |text m=>have e':T[k]? = some (.text m):=e';rw[e] at e';cases e'
  |brk=>rfl
  |nest m c=>obtain⟨_,e',_⟩:=e';rw[e] at e';cases e'
  |align c=>obtain⟨_,e',_⟩:=e';rw[e] at e';cases e'
  |beside c d=>obtain⟨_,_,e',_⟩:=e';rw[e] at e';cases e'
  |choice c d=>obtain⟨_,_,e',_⟩:=e';rw[e] at e';cases e'
 |.nest n a,b,k,⟨i,e,q⟩,e'=>by
  cases b with
  |text m=>have e':T[k]? = some (.text m):=e';rw[e] at e';cases e'
  |brk=>have e':T[k]? = some .brk:=e';rw[e] at e';cases e'
  |nest m c=>obtain⟨_,e',q'⟩:=e';rw[e] at e';cases e';rw[cj.one q q']
  |align c=>obtain⟨_,e',_⟩:=e';rw[e] at e';cases e'
  |beside c d=>obtain⟨_,_,e',_⟩:=e';rw[e] at e';cases e'
  |choice c d=>obtain⟨_,_,e',_⟩:=e';rw[e] at e';cases e'
 |.align a,b,k,⟨i,e,q⟩,e'=>by
  cases b with
  |text m=>have e':T[k]? = some (.text m):=e';rw[e] at e';cases e'
  |brk=>have e':T[k]? = some .brk:=e';rw[e] at e';cases e'
  |nest m c=>obtain⟨_,e',_⟩:=e';rw[e] at e';cases e'
  |align c=>obtain⟨_,e',q'⟩:=e';rw[e] at e';cases e';rw[cj.one q q']
  |beside c d=>obtain⟨_,_,e',_⟩:=e';rw[e] at e';cases e'
  |choice c d=>obtain⟨_,_,e',_⟩:=e';rw[e] at e';cases e'
 |.beside a1 a2,b,k,⟨i,j,e,q,p⟩,e'=>by
  cases b with
  |text m=>have e':T[k]? = some (.text m):=e';rw[e] at e';cases e'
  |brk=>have e':T[k]? = some .brk:=e';rw[e] at e';cases e'
  |nest m c=>obtain⟨_,e',_⟩:=e';rw[e] at e';cases e'
  |align c=>obtain⟨_,e',_⟩:=e';rw[e] at e';cases e'
  |beside c d=>obtain⟨_,_,e',q',p'⟩:=e';rw[e] at e';cases e';rw[cj.one q q',cj.one p p']
  |choice c d=>obtain⟨_,_,e',_⟩:=e';rw[e] at e';cases e'
 |.choice a1 a2,b,k,⟨i,j,e,q,p⟩,e'=>by
  cases b with
  |text m=>have e':T[k]? = some (.text m):=e';rw[e] at e';cases e'
  |brk=>have e':T[k]? = some .brk:=e';rw[e] at e';cases e'
  |nest m c=>obtain⟨_,e',_⟩:=e';rw[e] at e';cases e'
  |align c=>obtain⟨_,e',_⟩:=e';rw[e] at e';cases e'
  |beside c d=>obtain⟨_,_,e',_⟩:=e';rw[e] at e';cases e'
  |choice c d=>obtain⟨_,_,e',q',p'⟩:=e';rw[e] at e';cases e';rw[cj.one q q',cj.one p p']
noncomputable def zk4:Nd->Option Nat
 |.text n=>some n
 |.beside a b=>fV (· + ·) (zk4 a) (zk4 b)
 |.choice a b=>fV min (zk4 a) (zk4 b)
 |_=>none
theorem cj.len{T:List Raw}{L:List (Option Nat)}(w:sO T L):∀ {a:Nd} {k:Nat},cj T k a->L[k]? = some (zk4 a)
 |.text n,k,e=>by rw[w.uP k _ e];rfl
 |.brk,k,e=>by rw[w.uP k _ e];rfl
 |.nest n a,k,⟨i,e,_⟩=>by rw[w.uP k _ e];rfl
 |.align a,k,⟨i,e,_⟩=>by rw[w.uP k _ e];rfl
 |.beside a b,k,⟨i,j,e,q,p⟩=>by
  rw[w.uP k _ e];show some (fV _ (L.getD i none) (L.getD j none))=some (fV _ (zk4 a) (zk4 b));rw[getD_eq_getElem?_getD,getD_eq_getElem?_getD,cj.len w q,cj.len w p];rfl
 |.choice a b,k,⟨i,j,e,q,p⟩=>by
  rw[w.uP k _ e];show some (fV _ (L.getD i none) (L.getD j none))=some (fV _ (zk4 a) (zk4 b));rw[getD_eq_getElem?_getD,getD_eq_getElem?_getD,cj.len w q,cj.len w p];rfl
noncomputable def aQ:Plan->Bool->Nd
 |.text t,_=>.text t.length
 |.line,f=>if f then .text 1 else .brk
 |.cut,f=>if f then .text 0 else .brk
 |.nest n p,f=>if(zk4 (aQ p f)).isSome then aQ p f else .nest n (aQ p f)
 |.align p,f=>if(zk4 (aQ p f)).isSome then aQ p f else .align (aQ p f)
 |.flat p,_=>aQ p true
 |.beside p q,f=>.beside (aQ p f) (aQ q f)
 |.choice p q,f=>.choice (aQ p f) (aQ q f)
theorem VH{g:Nat->Nat->Nat}:∀ {a b:Option Nat},a.isSome=true->b.isSome=true->(fV g a b).isSome=true
 |some _,some _,_,_=>rfl
theorem lV:∀p:Plan,(zk4 (aQ p true)).isSome=true
 |.text _=>rfl
 |.line=>rfl
 |.cut=>rfl
 |.nest n p=>by unfold aQ;rw[if_pos (lV p)];exact lV p
 |.align p=>by unfold aQ;rw[if_pos (lV p)];exact lV p
 |.flat p=>lV p
 |.beside p q=>VH (lV p) (lV q)
 |.choice p q=>VH (lV p) (lV q)
theorem VJ(n:Nat)(p:Plan):aQ (.nest n p) true=aQ p true:=by show(if _ then _ else _)=_;rw[if_pos (lV p)]
theorem VL(p:Plan):aQ (.align p) true=aQ p true:=by show(if _ then _ else _)=_;rw[if_pos (lV p)]
def zk6:Plan->List Plan
 |.nest n p=>.nest n p::zk6 p
 |.align p=>.align p::zk6 p
 |.flat p=>.flat p::zk6 p
 |_=>[]
theorem BX:∀p:Plan,(zk6 p).length<=p.size
 |.text _=>zero_le _
 |.line=>zero_le _
 |.cut=>zero_le _
 |.nest _ p=>by have:=BX p;simp only[zk6,Plan.size,length_cons];omega
 |.align p=>by have:=BX p;simp only[zk6,Plan.size,length_cons];omega
 |.flat p=>by have:=BX p;simp only[zk6,Plan.size,length_cons];omega
 |.beside _ _=>zero_le _
 |.choice _ _=>zero_le _
noncomputable def iW(i:Nat):List Raw->List (List Key×V)
 |[]=>[]
 |r::T=>(d7 r,.int (i:Nat))::iW (i+1) T
theorem VN:∀(T:List Raw) (i:Nat),(iW i T).length=T.length
 |[],_=>rfl
 |_::T,i=>by show _+1=_+1;rw[VN T]
theorem VP:∀(T:List Raw) (r:Raw) (i:Nat),iW i (T++[r])=iW i T++[(d7 r,.int ((i+T.length:Nat):Int))]
 |[],r,i=>rfl
 |q::T,r,i=>by
  show _::iW (i+1) (T++[r])=_;rw[VP T r (i+1)];show _::(_++_)=_::(_++_);have:i+1+T.length=i+(q::T).length:=by simp;omega
  rw[this]
theorem IV:∀(T:List Raw) (i k:Nat) (r:Raw),T.Nodup->T[k]? = some r->gO (iW i T) (d7 r)=some (.int ((i+k:Nat):Int))
 |[],_,_,_,_,h=>by simp at h
 |q::T,i,0,r,_,h=>by simp at h;subst h;exact yM rfl
 |q::T,i,k+1,r,hn,h=>by
  have h':T[k]? = some r:=by simpa using h
  obtain⟨h1,h2⟩:=List.nodup_cons.mp hn;have ne:¬d7 q=d7 r:=λe=>h1 (by rw[VF e];exact mem_of_getElem? h')
  show gO (_::iW (i+1) T) _=_;rw[uH ne,IV T (i+1) k r h2 h'];have:i+1+k=i+(k+1):=by omega
  rw[this]
theorem VR:∀(T:List Raw) (i:Nat) (r:Raw),r∉T->gO (iW i T) (d7 r)=none
 |[],_,_,_=>rfl
 |q::T,i,r,h=>by
  have ne:¬d7 q=d7 r:=λe=>h (by rw[VF e];exact mem_cons_self)
  show gO (_::iW (i+1) T) _=_;rw[uH ne,VR T (i+1) r λz=>h (mem_cons_of_mem _ z)]
def zl6:Option Nat->V
 |some n=>.int (n:Nat)
 |none=>.non
noncomputable def nf(la na ga:Addr):List (Str×V):=[("listed",V.ref la),("numbers",V.ref na),("lengths",V.ref ga)]
theorem sS(la na ga:Addr):(nf la na ga).lookup ("listed":Str)=some (.ref la):=by simp[nf,List.lookup]
theorem BZ(la na ga:Addr):(nf la na ga).lookup ("numbers":Str)=some (.ref na):=by
 have h:(("numbers":Str)=="listed")=false:=by decide +kernel
 simp[nf,List.lookup,h]
theorem qy(la na ga:Addr):(nf la na ga).lookup ("lengths":Str)=some (.ref ga):=by
 have h:(("lengths":Str)=="listed")=false:=by decide +kernel
 have h2:(("lengths":Str)=="numbers")=false:=by decide +kernel
 simp[nf,List.lookup,h,h2]
theorem jc(la na ga:Addr){m:Str}(h1:(m==("listed":Str))=false)(h2:(m==("numbers":Str))=false)(h3:(m==("lengths":Str))=false):(nf la na ga).lookup m=none:=by
 simp[nf,List.lookup,h1,h2,h3]
theorem W0:¬(("listed":Str)="numbers"):=by decide +kernel
theorem EH:¬(("listed":Str)="lengths"):=by decide +kernel
theorem EI:¬(("numbers":Str)="lengths"):=by decide +kernel
theorem EJ(la na ga:Addr):eY "lengths" (.ref ga) (eY "numbers" (.ref na) (eY "listed" (.ref la) []))=nf la na ga:=by
 show eY "lengths" (.ref ga) (eY "numbers" (.ref na) [(("listed":Str),V.ref la)])=_
 have e1:eY "numbers" (.ref na) [(("listed":Str),V.ref la)]=([("listed",V.ref la),("numbers",V.ref na)]:List (Str×V)):=by
  show(if("listed":Str)="numbers" then _ else _)=_
  rw[if_neg W0]<;>rfl
 rw[e1];show(if("listed":Str)="lengths" then _ else(("listed":Str),V.ref la)::(if("numbers":Str)="lengths" then _ else(("numbers":Str),V.ref na)::eY "lengths" (.ref ga) []))=_
 rw[if_neg EH,if_neg EI]<;>rfl
def lX(H:Hp)(a:Addr)(r:Raw):Prop:=H a=some (.tup ((d7 r).map kV))
abbrev sU(H:Hp):List Addr->List Raw->Prop:=Paired (lX H)
theorem sU.mono (h:bQ H H')  (r:sU H as T):sU H' as T:=Paired.gJ r λ_ _ e=>h _ _ e
theorem sU.get{H:Hp}:∀ {as:List Addr} {T:List Raw} {k:Nat} {r:Raw},sU H as T->T[k]? = some r->∃a,as[k]? = some a/\lX H a r
 |_,_,_,_,.nil,e=>by simp at e
 |_,_,0,_,.cons q _,e=>by simp at e;subst e;exact⟨_,rfl,q⟩
 |_,_,k+1,r,.cons _ t,e=>by
  obtain⟨a,h1,h2⟩:=sU.get (k:=k) (r:=r) t (by simpa using e);exact⟨a,by simpa using h1,h2⟩
def eU(la na ga:Addr)(H H':Hp):Prop:=∀b o,H b=some o->b≠la->b≠na->b≠ga->H' b=some o
theorem eU.refl  : eU la na ga H H:=λ_ _ e _ _ _=>e
theorem eU.trans  (a:eU la na ga H H1)(b:eU la na ga H1 H2):eU la na ga H H2:=λc o e n1 n2 n3=>b c o (a c o e n1 n2 n3) n1 n2 n3
theorem eU.of  (s:Same H H'):eU la na ga H H':=λb o e _ _ _=>s b o e
structure gH(C:Addr)(H:Hp)(p la na ga:Addr)(T:List Raw)(L:List (Option Nat)):Prop where
 ob:∃dx,H p=some (.ins C dx (nf la na ga))
 li:∃as,H la=some (.lst (as.map V.ref))/\sU H as T
 nu:H na=some (.dT (iW 0 T))
 le:H ga=some (.lst (L.map zl6))
 ne:la≠ga
 wf:sO T L
theorem gH.mono{C:Addr}{H H':Hp}{p la na ga:Addr}{T:List Raw}{L:List (Option Nat)}(N:gH C H p la na ga T L)(s:Same H H'):gH C H' p la na ga T L:=by
 obtain⟨⟨dx,h1⟩,⟨as,h2,h3⟩,h4,h5,h6,h7⟩:=N;exact⟨⟨dx,s _ _ h1⟩,⟨as,s _ _ h2,h3.mono (.of s)⟩,s _ _ h4,s _ _ h5,h6,h7⟩
theorem gH.tups  {p:Addr}  (N:gH C H p la na ga T L)(b:eU la na ga H H'):bQ H H':=λc xs e=>by
 obtain⟨as,h2,_⟩:=N.li;exact b c _ e (cR e h2 (by intro z;cases z)) (cR e N.nu (by intro z;cases z)) (cR e N.le (by intro z;cases z))
structure k9(K:Frag)(mg:eV)(C:Addr):Prop where
 cl:Cls K C
 qz:jF K C "listed"
 zm:jF K C "numbers"
 p9:jF K C "lengths"
 len:mg "len"=none
 min:mg "min"=none
 rev:mg "reversed"=none
inductive C0(C:Addr)(vs:List V)(H:Hp)(Q:VK)(E':XK):Prop
 |mk (p dx:Addr) (z0:vs=[.ref p]) (z1:H p=some (.ins C dx [])) (z2:∀la na ga H',gH C H' p la na ga [] []->(∀b o,H b=some o->b≠p->H' b=some o)->H la=none->H na=none->H ga=none->Q .non H'):C0 C vs H Q E'
inductive C1(C:Addr)(vs:List V)(H:Hp)(Q:VK)(E':XK):Prop
 |mk (p t la na ga:Addr) (r:Raw) (T:List Raw) (L:List (Option Nat)) (z0:vs=[.ref p,.ref t]) (z1:(∃dx,H p=some (.ins C dx (nf la na ga)))) (z2:H ga=some (.lst (L.map zl6))) (z3:lX H t r) (z4:sJ L.length r) (z5:∀H',Same H H'->Q (zl6 (zl9 L r)) H'):C1 C vs H Q E'
inductive wB(C:Addr)(vs:List V)(H:Hp)(Q:VK)(E':XK):Prop
 |mk (p t la na ga:Addr) (r:Raw) (T:List Raw) (L:List (Option Nat)) (z0:vs=[.ref p,.ref t]) (z1:gH C H p la na ga T L) (z2:lX H t r) (z3:sJ T.length r) (z4:T.length<=1000000) (z5:∀(k:Nat) (T':List Raw) (L':List (Option Nat)) (H':Hp),gH C H' p la na ga T' L'->Pre T T'->T'.length<=T.length+1->T'[k]? = some r->eU la na ga H H'->Q (.int (k:Nat)) H'):wB C vs H Q E'
abbrev lY:List Str:=["self","node"]
theorem EK:cQ ["self"] ["self"] (cg Hy):=⟨rfl,rfl,rfl, ⋯,rfl, ⋯, ⋯⟩
theorem EL(F:cA K "__init__" "Nodes.__init__" Hy f fd)(T:k9 K mg C):aH P w K mg base aB 1 f fd ["self"] (C0 C):=by
 refine F.cU EK (λvs H Q E h=>?_) (λcdv A outer s H vs Q E hr h=>?_)
 ·obtain⟨p,dx,rfl,_⟩:=h
  rfl
 obtain⟨p,dx,rfl,hp,k⟩:=h;refine⟨_,au (pY (a6 0) (cX a7) rfl) (au (pY (a6 0) UG rfl) (aL (pY (a6 0) (cX a7) rfl))),?_⟩;refine⟨aC,λla hla=>?_⟩;have iY:p≠la:=c6 hp hla;refine⟨_,rfl,p,C,dx,[],rfl,(by rw[aJ iY];exact hp),T.cl,T.qz,(by show 0<1000;decide),λna hna=>?_⟩;have zp:p≠na:=λz=>by rw[<-z,a8] at hna;cases hna
 have zq:la≠na:=λz=>by rw[<-z,aJ iY.symm,a8] at hna;cases hna
 have W1:H na=none:=by rw[aJ zp.symm,aJ zq.symm] at hna;exact hna
 refine⟨_,rfl,p,C,dx,_,rfl,(by rw[aJ zp];exact a8),T.cl,T.zm,(by show 1<1000;decide),aC,λga hga=>?_⟩;have C2:p≠ga:=λz=>by rw[<-z,a8] at hga;cases hga
 have W2:ga≠na:=λz=>by rw[z,aJ zp.symm,a8] at hga;cases hga
 have IW:ga≠la:=λz=>by rw[z,aJ iY.symm,aJ zq,aJ iY.symm,a8] at hga;cases hga
 have zu:H ga=none:=by rw[aJ C2.symm,aJ W2,aJ C2.symm,aJ IW] at hga;exact hga
 refine⟨_,rfl,p,C,dx,_,rfl,(by rw[aJ C2];exact a8),T.cl,T.p9,?_,?_⟩
 ·show(if("listed":Str)="numbers" then[(("listed":Str),V.ref na)] else(("listed":Str),V.ref la)::[(("numbers":Str),V.ref na)]).length<1000
  rw[if_neg W0];show 2<1000;decide
 ·rw[EJ]
  refine k la na ga _ ⟨⟨dx,a8⟩,⟨[],?_,.nil⟩,?_,?_,IW.symm,sO.nil⟩ (λb o e hb=>?_) hla W1 zu
  ·rw[aJ iY.symm,aJ IW.symm,aJ iY.symm,aJ zq,aJ iY.symm,a8];rfl
  ·rw[aJ zp.symm,aJ W2.symm,aJ zp.symm,a8];rfl
  ·rw[aJ C2.symm,a8];rfl
  ·rw[aJ hb,aJ (c6 e zu),aJ hb,aJ (c6 e W1),aJ hb,aJ (c6 e hla)]
   exact e
theorem W3:cQ ["self","node","first","second"] lY (cg HB):=⟨rfl,rfl,rfl, ⋯,rfl, ⋯, ⋯⟩
theorem C3  (h:i<L.length):dN (L.map zl6) ((i:Nat):Int)=some (zl6 (L.getD i none)):=gF (by
 rw[getElem?_map,getD_eq_getElem?_getD,getElem?_eq_getElem h];rfl)
theorem ER(F:cA K "length_of" "Nodes.length_of" HB f fd)(T:k9 K mg C):aH P w K mg base aB 1 f fd lY (C1 C):=by
 refine F.cU W3 (λvs H Q E h=>?_) (λcdv A outer s H vs Q E hr h=>?_)
 ·obtain⟨p,t,la,na,ga,r,T,L,rfl,_⟩:=h
  rfl
 obtain⟨p,t,la,na,ga,r,T',L,rfl,⟨dx,hp⟩,hg,ht,hk,q⟩:=h;have nd:=W3.nd
 refine⟨_,au (cN (cI d8 (aF aN (a6 1) ak (λ_ _=>rfl)) aK (cP _)) (aL (bx (aF aN (a6 1) ak (λ_ _=>rfl)))) cW)<|
  au (cN (cI S9 (aF aN (a6 1) ak (λ_ _=>rfl)) (bf (aM aK (aM aK a7))) rfl) (aL (bx Fv)) cW)<|
  au (aO (i:=2) nd rfl (Or.inl rfl) (aF gK (dY (a6 0) rfl) (aF aN (a6 1) ak (λ_ _=>rfl)) (λ_ _=>rfl)))<|
  au (aO (i:=3) nd rfl (Or.inl rfl) (aF gK (dY (a6 0) rfl) (aF aN (a6 1) ak (λ_ _=>rfl)) (λ_ _=>rfl)))<|
  au (cN (PW.vN (vP (jZ (Fx (a6 2))) (vO (jZ (Fx (a6 3)))))) (aL (bx Fv)) cW)<|
  aL (bx (jL (cI d8 (aF aN (a6 1) ak (λ_ _=>rfl)) aK (cP _)) (bK iQ (a6 2) (a6 3)) (j4 (Rk rfl) rfl T.min boot_min (aq (a6 2) (aq (a6 3) a7))))),?_⟩
 cases r with
 |text n=>
  have ht:H t=some (.tup [.str "text",.int (n:Nat)]):=ht
  exact⟨_,rfl,t,_,_,_,rfl,rfl,a9.of ht,rfl,rfl,_,rfl,cG (by show decide (V.str (Str.ofString "text")=V.str (Str.ofString "text"))=true;decide +kernel) ⟨_,rfl,t,_,_,_,rfl,rfl,a9.of ht,rfl,q H (Same.refl H)⟩⟩
 |brk=>
  have ht:H t=some (.tup [.str "break"]):=ht
  refine⟨_,rfl,t,_,_,_,rfl,rfl,a9.of ht,rfl,rfl,_,rfl,aP (by show ¬decide (V.str (Str.ofString "break")=V.str (Str.ofString "text"))=true;decide +kernel) ?_⟩
  refine⟨_,rfl,t,_,_,_,rfl,rfl,a9.of ht,rfl,aC,λt2 ig=>⟨t2,_,rfl,.inr (a9.of a8),rfl,rfl,_,rfl,?_⟩⟩;exact cG (by show(!inV (.str (Str.ofString "break")) [.str (Str.ofString "beside"),.str (Str.ofString "choice")])=true;decide +kernel) (q _ (ao ig _))
 |nest n i=>
  have ht:H t=some (.tup [.str "nest",.int (n:Nat),.int (i:Nat)]):=ht
  refine⟨_,rfl,t,_,_,_,rfl,rfl,a9.of ht,rfl,rfl,_,rfl,aP (by show ¬decide (V.str (Str.ofString "nest")=V.str (Str.ofString "text"))=true;decide +kernel) ?_⟩
  refine⟨_,rfl,t,_,_,_,rfl,rfl,a9.of ht,rfl,aC,λt2 ig=>⟨t2,_,rfl,.inr (a9.of a8),rfl,rfl,_,rfl,?_⟩⟩;exact cG (by show(!inV (.str (Str.ofString "nest")) [.str (Str.ofString "beside"),.str (Str.ofString "choice")])=true;decide +kernel) (q _ (ao ig _))
 |align i=>
  have ht:H t=some (.tup [.str "align",.int (i:Nat)]):=ht
  refine⟨_,rfl,t,_,_,_,rfl,rfl,a9.of ht,rfl,rfl,_,rfl,aP (by show ¬decide (V.str (Str.ofString "align")=V.str (Str.ofString "text"))=true;decide +kernel) ?_⟩
  refine⟨_,rfl,t,_,_,_,rfl,rfl,a9.of ht,rfl,aC,λt2 ig=>⟨t2,_,rfl,.inr (a9.of a8),rfl,rfl,_,rfl,?_⟩⟩;exact cG (by show(!inV (.str (Str.ofString "align")) [.str (Str.ofString "beside"),.str (Str.ofString "choice")])=true;decide +kernel) (q _ (ao ig _))
 |beside i j=>
  have ht:H t=some (.tup [.str "beside",.int (i:Nat),.int (j:Nat)]):=ht
  refine⟨_,rfl,t,_,_,_,rfl,rfl,a9.of ht,rfl,rfl,_,rfl,aP (by show ¬decide (V.str (Str.ofString "beside")=V.str (Str.ofString "text"))=true;decide +kernel) ?_⟩
  refine⟨_,rfl,t,_,_,_,rfl,rfl,a9.of ht,rfl,aC,λt2 ig=>⟨t2,_,rfl,.inr (a9.of a8),rfl,rfl,_,rfl,?_⟩⟩;have s1:=ao ig (.tup [.str "beside",.str "choice"])
  refine aP (by show ¬(!inV (.str (Str.ofString "beside")) [.str (Str.ofString "beside"),.str (Str.ofString "choice")])=true;decide +kernel) ?_
  have ht1:=s1 _ _ ht;refine⟨_,rfl,p,C,dx,_,_,rfl,s1 _ _ hp,T.cl,T.p9,qy _ _ _,_,rfl,t,_,_,_,rfl,rfl,a9.of ht1,rfl,ga,_,_,_,rfl,rfl,aG.of (s1 _ _ hg),C3 hk.1,?_⟩;refine⟨_,rfl,p,C,dx,_,_,rfl,s1 _ _ hp,T.cl,T.p9,qy _ _ _,_,rfl,t,_,_,_,rfl,rfl,a9.of ht1,rfl,ga,_,_,_,rfl,rfl,aG.of (s1 _ _ hg),C3 hk.2,?_⟩;have q:Q (zl6 (fV (· + ·) (L.getD i none) (L.getD j none))) _:=q _ s1
  generalize L.getD i none=x at q
  generalize L.getD j none=y at q
  refine⟨_,rfl,_,rfl,?_⟩;cases x with
  |none=>exact fu (fu q)
  |some m=>
   refine gM ⟨_,rfl,_,rfl,?_⟩;cases y with
   |none=>exact fu q
   |some n=>
    refine gM ⟨_,rfl,t,_,_,_,rfl,rfl,a9.of ht1,rfl,rfl,_,rfl,?_⟩;have q:Q (.int ((m+n:Nat):Int)) _:=q;refine cG (by show decide (V.str (Str.ofString "beside")=V.str (Str.ofString "beside"))=true;decide +kernel) ⟨_,rfl,_,rfl,_,_,rfl,rfl,?_⟩
    rw[Int.natCast_add] at q
    exact q
 |choice i j=>
  have ht:H t=some (.tup [.str "choice",.int (i:Nat),.int (j:Nat)]):=ht
  refine⟨_,rfl,t,_,_,_,rfl,rfl,a9.of ht,rfl,rfl,_,rfl,aP (by show ¬decide (V.str (Str.ofString "choice")=V.str (Str.ofString "text"))=true;decide +kernel) ?_⟩
  refine⟨_,rfl,t,_,_,_,rfl,rfl,a9.of ht,rfl,aC,λt2 ig=>⟨t2,_,rfl,.inr (a9.of a8),rfl,rfl,_,rfl,?_⟩⟩;have s1:=ao ig (.tup [.str "beside",.str "choice"])
  refine aP (by show ¬(!inV (.str (Str.ofString "choice")) [.str (Str.ofString "beside"),.str (Str.ofString "choice")])=true;decide +kernel) ?_
  have ht1:=s1 _ _ ht;refine⟨_,rfl,p,C,dx,_,_,rfl,s1 _ _ hp,T.cl,T.p9,qy _ _ _,_,rfl,t,_,_,_,rfl,rfl,a9.of ht1,rfl,ga,_,_,_,rfl,rfl,aG.of (s1 _ _ hg),C3 hk.1,?_⟩;refine⟨_,rfl,p,C,dx,_,_,rfl,s1 _ _ hp,T.cl,T.p9,qy _ _ _,_,rfl,t,_,_,_,rfl,rfl,a9.of ht1,rfl,ga,_,_,_,rfl,rfl,aG.of (s1 _ _ hg),C3 hk.2,?_⟩;have q:Q (zl6 (fV (min) (L.getD i none) (L.getD j none))) _:=q _ s1
  generalize L.getD i none=x at q
  generalize L.getD j none=y at q
  refine⟨_,rfl,_,rfl,?_⟩;cases x with
  |none=>exact fu (fu q)
  |some m=>
   refine gM ⟨_,rfl,_,rfl,?_⟩;cases y with
   |none=>exact fu q
   |some n=>
    refine gM ⟨_,rfl,t,_,_,_,rfl,rfl,a9.of ht1,rfl,rfl,_,rfl,?_⟩;have q:Q (.int ((min m n:Nat):Int)) _:=q;refine aP (by show ¬decide (V.str (Str.ofString "choice")=V.str (Str.ofString "beside"))=true;decide +kernel) ⟨_,rfl,_,rfl,_,_,rfl,?_⟩
    have e:(if((n:Nat):Int)<((m:Nat):Int) then((n:Nat):Int) else((m:Nat):Int))=((min m n:Nat):Int):=by
     split<;>omega
    rw[e];exact q
theorem EV:cQ lY lY (cg Hz):=⟨rfl,rfl,rfl, ⋯,rfl, ⋯, ⋯⟩
theorem EW  (F:cA K "number_of" "Nodes.number_of" Hz f fd)(T:k9 K mg C)(LN:MO P w K mg base C aB 1 fL lD "length_of" lY (C1 C)):aH P w K mg base aB 2 f fd lY (wB C):=by
 refine F.cU EV (λvs H Q E h=>?_) (λcdv A outer s H vs Q E hr h=>?_)
 ·obtain⟨p,t,la,na,ga,r,T,L,rfl,_⟩:=h
  rfl
 obtain⟨p,t,la,na,ga,r,Tb,L,rfl,N,ht,hk,hz,q⟩:=h;have hu:=qA hr
 refine⟨_,au (cN (jZ (yR hu (a6 1) (dY (a6 0) rfl))) (au (yS hu (dY (a6 0) rfl) (a6 1) (j4 pW rfl T.len PySem.boot_len (FP (dY (a6 0) rfl) a7)) rfl)<|
   au (fZ (gG plainAttrs_list PySem.F.slot_list_append PySem.F.type_list_append ju (dY (a6 0) rfl) (aq (a6 1) a7)))<|
   aL (fZ (gG plainAttrs_list PySem.F.slot_list_append PySem.F.type_list_append ju (dY (a6 0) rfl) (dw (dU (a6 0) T.cl LN.m LN.ok hr LN.b .nil aU (aq (a6 1) a7)) a7)))) cW)<|
  aL (bx (qm hu (dY (a6 0) rfl) (a6 1) (λ_ _=>rfl))),?_⟩
 obtain⟨⟨dx,hp⟩,⟨as,hla,zx⟩,hnu,hle,qC,wf⟩:=id N;have hlen:=lQ zx;refine⟨_,rfl,_,rfl,p,C,dx,_,_,rfl,hp,T.cl,T.zm,BZ _ _ _,na,_,rfl,iG.t hnu ht,_,rfl,?_⟩
 by_cases hm:r∈Tb
 ·obtain⟨k,hk1,hk2⟩:=List.mem_iff_getElem.mp hm
  have hkk:Tb[k]? = some r:=by rw[getElem?_eq_getElem hk1,hk2]
  have hv:=IV Tb 0 k r wf.nodup hkk;rw[zero_add] at hv
  rw[hv];refine gM ⟨_,rfl,p,C,dx,_,_,rfl,hp,T.cl,T.zm,BZ _ _ _,_,rfl,na,.int (k:Nat),rfl,?_,q k Tb L H N (Pre.refl _) (by omega) hkk eU.refl⟩;rw[<-hv];exact iG.t hnu ht
 ·have hv:=VR Tb 0 r hm
  rw[hv];have EX:((as.map V.ref).length:Int)=((Tb.length:Nat):Int):=by rw[length_map,hlen]
  have EZ:p≠la:=cR hp hla (by intro z;cases z);have W4:p≠na:=cR hp hnu (by intro z;cases z);have Fa:p≠ga:=cR hp hle (by intro z;cases z);have J0:la≠na:=cR hla hnu (by intro z;cases z);have W5:ga≠na:=cR hle hnu (by intro z;cases z);have Fc:t≠la:=cR ht hla (by intro z;cases z);have Ff:t≠na:=cR ht hnu (by intro z;cases z);have zh1:t≠ga:=cR ht hle (by intro z;cases z);refine fu ⟨_,rfl,p,C,dx,_,_,rfl,hp,T.cl,T.qz,sS _ _ _,la,_,rfl,.inl (aG.of hla),_,rfl,p,C,dx,_,_,rfl,hp,T.cl,T.zm,BZ _ _ _,_,rfl,na,_,rfl,nq.t hnu ht (lt_of_lt_of_le (show(iW 0 Tb).length<1000001 by rw[VN];omega) (d4 (by omega))),?_⟩;rw[EX,Uq _ hv];have Fh:iW 0 Tb++[(d7 r,V.int ((Tb.length:Nat):Int))]=iW 0 (Tb++[r]):=by rw[VP,zero_add]
  rw[Fh];refine⟨_,rfl,p,C,dx,_,_,rfl,(by rw[aJ W4];exact hp),T.cl,T.qz,sS _ _ _,.inl ⟨rfl,_,aG.of (by rw[aJ J0];exact hla)⟩,_,rfl,la,_,_,rfl,rfl,(by rw[aJ J0];exact hla),lt_of_lt_of_le (show(as.map V.ref).length<1000001 by rw[length_map];omega) (d4 (by omega)),?_⟩;have hp2:(upd (upd H na (.dT (iW 0 (Tb++[r])))) la (.lst (as.map V.ref++[.ref t]))) p=some (.ins C dx (nf la na ga)):=by rw[aJ EZ,aJ W4];exact hp
  have hg2:(upd (upd H na (.dT (iW 0 (Tb++[r])))) la (.lst (as.map V.ref++[.ref t]))) ga=some (.lst (L.map zl6)):=by rw[aJ qC.symm,aJ W5];exact hle
  have hn2:(upd (upd H na (.dT (iW 0 (Tb++[r])))) la (.lst (as.map V.ref++[.ref t]))) na=some (.dT (iW 0 (Tb++[r]))):=by rw[aJ J0.symm,a8]
  have ig:(upd (upd H na (.dT (iW 0 (Tb++[r])))) la (.lst (as.map V.ref++[.ref t]))) t=some (.tup ((d7 r).map kV)):=by rw[aJ Fc,aJ Ff];exact ht
  have hl2:(upd (upd H na (.dT (iW 0 (Tb++[r])))) la (.lst (as.map V.ref++[.ref t]))) la=some (.lst ((as++[t]).map V.ref)):=by rw[a8,map_append];rfl
  have b2:eU la na ga H (upd (upd H na (.dT (iW 0 (Tb++[r])))) la (.lst (as.map V.ref++[.ref t]))):=λb o e n1 n2 n3=>by rw[aJ n1,aJ n2];exact e
  generalize upd (upd H na (.dT (iW 0 (Tb++[r])))) la (.lst (as.map V.ref++[.ref t]))=H2 at hp2 hg2 hn2 ig hl2 b2
  refine⟨_,rfl,p,C,dx,_,_,rfl,hp2,T.cl,T.p9,qy _ _ _,.inl ⟨rfl,_,aG.of hg2⟩,_,rfl,p,dx,_,rfl,hp2,jc _ _ _ ⋯ ⋯ ⋯,_,rfl,p,t,la,na,ga,r,Tb,L,rfl,⟨dx,hp2⟩,hg2,ig,by rw[wf.len];exact hk,λH3 s3=>?_⟩;refine⟨ga,_,_,rfl,rfl,s3 _ _ hg2,lt_of_lt_of_le (show(L.map zl6).length<1000001 by rw[length_map,wf.len];omega) (d4 (by omega)),?_⟩;have u3:bQ H3 (upd H3 ga (.lst (L.map zl6++[zl6 (zl9 L r)]))):=dX (s3 _ _ hg2);have J1:bQ H (upd H3 ga (.lst (L.map zl6++[zl6 (zl9 L r)]))):=(N.tups b2).trans ((bQ.of s3).trans u3);have N3:gH C (upd H3 ga (.lst (L.map zl6++[zl6 (zl9 L r)]))) p la na ga (Tb++[r]) (L++[zl9 L r]):=by
   refine⟨⟨dx,by rw[aJ Fa];exact s3 _ _ hp2⟩,⟨as++[t],by rw[aJ qC];exact s3 _ _ hl2,iU (sU.mono J1 zx) (.cons (J1 _ _ ht) .nil)⟩,by rw[aJ W5.symm];exact s3 _ _ hn2,by rw[a8,map_append];rfl,qC,wf.snoc hk hm⟩
  have hkk:(Tb++[r])[Tb.length]? = some r:=by simp
  have hv2:=IV (Tb++[r]) 0 Tb.length r N3.wf.nodup hkk;rw[zero_add] at hv2
  obtain⟨⟨lZ,hp3⟩,_,Fk,_⟩:=id N3;refine⟨_,rfl,p,C,lZ,_,_,rfl,hp3,T.cl,T.zm,BZ _ _ _,_,rfl,na,.int (Tb.length:Nat),rfl,?_,q Tb.length _ _ _ N3 (Pre.app Tb [r]) (by rw[length_append];exact le_refl _) hkk (b2.trans (λb o e n1 n2 n3=>by rw[aJ n3];exact s3 _ _ e))⟩;rw[<-hv2];exact iG.t Fk (J1 _ _ ht)
theorem Fm:cQ ["leaf"] ["leaf"] (cg Gp):=⟨rfl,rfl,rfl, ⋯,rfl, ⋯, ⋯⟩
theorem Fn {t1 t2:Tok}(F:cA K "signs_in_one_row" "signs_in_one_row" Gp f fd)(B:Ir P w mg base dB t1 t2):aH P w K mg base aB 1 f fd ["leaf"] zc:=by
 refine F.cU Fm (λvs H Q E h=>?_) (λcdv A outer s H vs Q E hr h=>?_)
 ·obtain⟨r,p,rfl,_⟩:=h
  rfl
 obtain⟨r,p,rfl,hP,hl,q⟩:=h;refine⟨_,aL (bx (jL (cI d8 (aF aN (a6 0) ak (λ_ _=>rfl)) aK (cP _)) (aF aN (a6 0) ak (λ_ _=>rfl)) (U0 B.dd (oO rfl B.mB (v:=.ref dB) rfl) (aF aN (a6 0) ak (λ_ _=>rfl)) (λ_ _=>rfl)))),?_⟩;cases p with
 |text x=>
  have hP:H r=some (.tup [.str "text",.str (tx x)]):=hP
  exact⟨_,rfl,r,_,_,_,rfl,rfl,a9.of hP,rfl,rfl,_,rfl,cG ⋯ ⟨_,rfl,r,_,_,_,rfl,rfl,a9.of hP,rfl,q⟩⟩
 |line=>
  have hP:H r=some (.tup [.str "line"]):=hP
  refine⟨_,rfl,r,_,_,_,rfl,rfl,a9.of hP,rfl,rfl,_,rfl,aP ⋯ ⟨_,rfl,r,_,_,_,rfl,rfl,a9.of hP,rfl,"line",.str " ",_,rfl,rfl,Vq t1 t2,⟨_,rfl⟩,?_⟩⟩
  rw[qe];exact q
 |cut=>
  have hP:H r=some (.tup [.str "cut"]):=hP
  refine⟨_,rfl,r,_,_,_,rfl,rfl,a9.of hP,rfl,rfl,_,rfl,aP ⋯ ⟨_,rfl,r,_,_,_,rfl,rfl,a9.of hP,rfl,"cut",.str "",_,rfl,rfl,Vr t1 t2,⟨_,rfl⟩,?_⟩⟩
  rw[qg];exact q
 |_=>cases hl
def nH(H:Hp)(T:List Raw)(t:Addr)(q:Plan):Prop:=∃i j:Nat,H t=some (.tup [.int (i:Nat),.int (j:Nat)])/\cj T i (aQ q false)/\cj T j (aQ q true)
theorem nH.mono{H H':Hp}{T T':List Raw}(h:bQ H H')(hp:Pre T T'){t:Addr}{q:Plan}:nH H T t q->nH H' T' t q:=λ⟨i,j,e,a,b⟩=>⟨i,j,h _ _ e,a.mono hp,b.mono hp⟩
def C4(C p la na ga:Addr)(T:List Raw)(H:Hp)(Q:VK)(c:Nat)(q:Plan):Prop:=∀(t:Addr) (T':List Raw) (L':List (Option Nat)) (H':Hp),gH C H' p la na ga T' L'->Pre T T'->T'.length<=T.length+c->nH H' T' t q->eU la na ga H H'->Q (.ref t) H'
inductive C5(C:Addr)(vs:List V)(H:Hp)(Q:VK)(E':XK):Prop
 |mk (p r la na ga:Addr) (q:Plan) (T:List Raw) (L:List (Option Nat)) (z0:vs=[.ref p,.ref r]) (z1:gH C H p la na ga T L) (z2:T.length<=900000) (z3:aZ H q r) (z4:jP q=true) (z5:q.grow<=1000000) (z6:C4 C p la na ga T H Q 2 q):C5 C vs H Q E'
def zm7:Plan->Plan
 |.nest _ p=>p
 |.align p=>p
 |.flat p=>p
 |p=>p
inductive C6(C:Addr)(vs:List V)(H:Hp)(Q:VK)(E':XK):Prop
 |mk (p r t la na ga:Addr) (q:Plan) (T:List Raw) (L:List (Option Nat)) (z0:vs=[.ref p,.ref r,.ref t]) (z1:gH C H p la na ga T L) (z2:T.length<=900000) (z3:aZ H q r) (z4:jf q=false) (z5:nH H T t (zm7 q)) (z6:C4 C p la na ga T H Q 1 q):C6 C vs H Q E'
inductive zy(C:Addr)(vs:List V)(H:Hp)(Q:VK)(E':XK):Prop
 |mk (p r t la na ga:Addr) (q:Plan) (T:List Raw) (L:List (Option Nat)) (z0:vs=[.ref p,.ref r,.ref t]) (z1:gH C H p la na ga T L) (z2:T.length+(zk6 q).length<=900000) (z3:aZ H q r) (z4:nH H T t (zk8 q)) (z5:C4 C p la na ga T H Q (zk6 q).length q):zy C vs H Q E'
inductive C7(C:Addr)(vs:List V)(H:Hp)(Q:VK)(E':XK):Prop
 |mk (p r t1 t2 la na ga x y:Addr) (c a b:Plan) (T:List Raw) (L:List (Option Nat)) (z0:vs=[.ref p,.ref r,.ref t1,.ref t2]) (z1:gH C H p la na ga T L) (z2:T.length+(zk6 a).length+(zk6 b).length+2<=900000) (z3:((c=.beside a b/\H r=some (.tup [.str "beside",.ref x,.ref y]))\/(c=.choice a b/\H r=some (.tup [.str "choice",.ref x,.ref y])))) (z4:aZ H a x) (z5:aZ H b y) (z6:nH H T t1 (zk8 a)) (z7:nH H T t2 (zk8 b)) (z8:C4 C p la na ga T H Q ((zk6 a).length+(zk6 b).length+2) c):C7 C vs H Q E'
inductive C8(C:Addr)(vs:List V)(H:Hp)(Q:VK)(E':XK):Prop
 |mk (p r la na ga:Addr) (q:Plan) (z0:vs=[.ref p,.ref r]) (z1:gH C H p la na ga [] []) (z2:aZ H q r) (z3:q.Lay) (z4:q.deep<=60) (z5:q.size<=100000) (z6:(cO q).length<=600) (z7:q.grow<=1000000) (z8:∀(k:Nat) (T':List Raw) (L':List (Option Nat)) (H':Hp),gH C H' p la na ga T' L'->cj T' k (aQ q false)->eU la na ga H H'->Q (.int (k:Nat)) H'):C8 C vs H Q E'
noncomputable def zm3:Nat->Plan->Plan
 |0,p=>p
 |n+1,p=>zm3 n (zm7 p)
theorem C9:∀(q:Plan) (j:Nat) (x:Plan),(zk6 q)[j]? = some x->x=zm3 j q/\jf x=false/\zm7 x=zm3 (j+1) q
 |.text _,_,_,h=>by simp[zk6] at h
 |.line,_,_,h=>by simp[zk6] at h
 |.cut,_,_,h=>by simp[zk6] at h
 |.beside _ _,_,_,h=>by simp[zk6] at h
 |.choice _ _,_,_,h=>by simp[zk6] at h
 |.nest n p,0,x,h=>by
  simp[zk6] at h;subst h;exact⟨rfl,rfl,rfl⟩
 |.nest n p,j+1,x,h=>C9 p j x (by simpa [zk6] using h)
 |.align p,0,x,h=>by
  simp[zk6] at h;subst h;exact⟨rfl,rfl,rfl⟩
 |.align p,j+1,x,h=>C9 p j x (by simpa [zk6] using h)
 |.flat p,0,x,h=>by
  simp[zk6] at h;subst h;exact⟨rfl,rfl,rfl⟩
 |.flat p,j+1,x,h=>C9 p j x (by simpa [zk6] using h)
theorem Ca:∀q:Plan,zm3 (zk6 q).length q=zk8 q
 |.text _=>rfl
 |.line=>rfl
 |.cut=>rfl
 |.beside _ _=>rfl
 |.choice _ _=>rfl
 |.nest _ p=>Ca p
 |.align p=>Ca p
 |.flat p=>Ca p
theorem W6:cQ ["self","leaf","in_one_row"] ["self","leaf"] (cg HF):=⟨rfl,rfl,rfl, ⋯,rfl, ⋯, ⋯⟩
theorem Fs (h:jP q=true)(hg:q.grow<=1000000):(p8 q).length<=1000000/\aQ q true=.text (p8 q).length/\(wA q=true->aQ q false=.text (p8 q).length)/\(wA q=false->aQ q false=.brk):=by
 cases q with
 |text x=>exact⟨hg,rfl,λ_=>rfl,λz=>by cases z⟩
 |line=>exact⟨by decide,rfl,(λz=>by cases z),λ_=>rfl⟩
 |cut=>exact⟨by decide,rfl,(λz=>by cases z),λ_=>rfl⟩
 |_=>cases h
theorem Fu  (F:cA K "pair_of_leaf" "Nodes.pair_of_leaf" HF f fd)(T:k9 K mg C)(NU:MO P w K mg base C aB 2 fN nD "number_of" lY (wB C))
  (GS:aH P w K mg base aB 1 fS sD ["leaf"] zc) (bS:Binds K sD ["leaf"] []) (kS:keepIn K (.ref fS)=true) (mS:mg "signs_in_one_row"=some (.ref fS)):aH P w K mg base aB 3 f fd ["self","leaf"] (C5 C):=by
 refine F.cU W6 (λvs H Q E h=>?_) (λcdv A outer s H vs Q E hr h=>?_)
 ·obtain⟨p,r,la,na,ga,q,T,L,rfl,_⟩:=h
  rfl
 obtain⟨p,r,la,na,ga,q,Tb,L,rfl,N,hz,hP,hl,hg,out⟩:=h;have nd:=W6.nd;have hr1:cZ 1 _:=hr.mono (by decide)
 refine⟨_,au (aO (i:=2) nd rfl (Or.inl rfl) (dU (a6 0) T.cl NU.m NU.ok hr NU.b .nil aU (d0 (bf (aM aK (dw (j4 B7 rfl T.len PySem.boot_len (dw (c9 GS hr1 rfl mS kS bS .nil aU (aq (a6 1) a7)) a7)) a7))) a7)))<|
  au (cN (cI d8 (aF aN (a6 1) ak (λ_ _=>rfl)) aK (cP _)) (aL (bx (bf (aq (a6 2) (aq (a6 2) a7))))) cW)<|
  aL (bx (bf (dw (dU (a6 0) T.cl NU.m NU.ok hr NU.b .nil aU (d0 (bf (aM aK a7)) a7)) (aq (a6 2) a7)))),?_⟩
 obtain⟨l1,l2,l3,l4⟩:=Fs hl hg;obtain⟨dx,hp⟩:=N.ob;refine⟨_,rfl,p,dx,_,rfl,hp,jc _ _ _ ⋯ ⋯ ⋯,_,rfl,r,q,rfl,hP,hl,_,rfl,d4 (by rw[dz];omega),aC,λt1 ht1=>?_⟩;rw[dz];have s1:=ao ht1 (.tup [.str "text",.int (((p8 q).length:Nat):Int)])
 refine⟨p,t1,la,na,ga,.text (p8 q).length,Tb,L,rfl,N.mono s1,a8,trivial,by omega,λk T1 L1 H1 N1 p1 z1 hk b1=>?_⟩;have FA:bQ H H1:=(bQ.of s1).trans ((N.mono s1).tups b1);have fX:=hP.mono FA;obtain⟨xs,hx⟩:=wz fX;have a1:cj T1 k (aQ q true):=by rw[l2];exact hk
 refine⟨_,rfl,r,_,_,.str (gP q),rfl,rfl,a9.of hx,(by show dN (V.str (gP q)::xs) ((0:Nat):Int)=_;exact gF rfl),rfl,_,rfl,?_⟩;rw[Iu];cases c:wA q with
 |true=>
  refine fu ⟨_,rfl,_,rfl,aC,λt ht=>?_⟩;have s2:=ao ht (.tup [.int (k:Nat),.int (k:Nat)]);exact out t T1 L1 _ (N1.mono s2) p1 (by omega) ⟨k,k,a8,by rw[l3 c,<-l2];exact a1,a1⟩ ((eU.of s1).trans (b1.trans (eU.of s2)))
 |false=>
  obtain⟨o8,hp1⟩:=N1.ob;refine gM ⟨_,rfl,p,o8,_,rfl,hp1,jc _ _ _ ⋯ ⋯ ⋯,aC,λt2 ig=>?_⟩;have s2:=ao ig (.tup [.str "break"])
  refine⟨p,t2,la,na,ga,.brk,T1,L1,rfl,N1.mono s2,a8,trivial,by omega,λk2 T2 L2 H2 N2 p2 z2 hk2 b2=>?_⟩;refine⟨_,rfl,aC,λt ht=>?_⟩;have s3:=ao ht (.tup [.int (k2:Nat),.int (k:Nat)]);exact out t T2 L2 _ (N2.mono s3) (p1.trans p2) (by omega) ⟨k2,k,a8,by rw[l4 c];exact hk2,a1.mono p2⟩ ((eU.of s1).trans (b1.trans ((eU.of s2).trans (b2.trans (eU.of s3)))))
theorem FC:cQ ["self","wrapper","pair"] ["self","wrapper","pair"] (cg HS):=⟨rfl,rfl,rfl, ⋯,rfl, ⋯, ⋯⟩
theorem FD  (F:cA K "pair_round" "Nodes.pair_round" HS f fd)(T:k9 K mg C)(NU:MO P w K mg base C aB 2 fN nD "number_of" lY (wB C)):aH P w K mg base aB 3 f fd ["self","wrapper","pair"] (C6 C):=by
 refine F.cU FC (λvs H Q E h=>?_) (λcdv A outer s H vs Q E hr h=>?_)
 ·obtain⟨p,r,t,la,na,ga,q,T,L,rfl,_⟩:=h
  rfl
 obtain⟨p,r,t,la,na,ga,q,Tb,L,rfl,N,hz,hP,hc,⟨i,j,ht,hi,hj⟩,out⟩:=h
 refine⟨_,au (cN (cI d8 (aF aN (a6 1) ak (λ_ _=>rfl)) aK (cP _)) (aL (bx (bf (cF (aF aN (a6 2) ak (λ_ _=>rfl)) (cF (aF aN (a6 2) ak (λ_ _=>rfl)) a7))))) cW)<|
  au (cN (jZ (Fy (aF gK (dY (a6 0) rfl) (aF aN (a6 2) ak (λ_ _=>rfl)) (λ_ _=>rfl)))) (aL (bx (a6 2))) cW)<|
  au (cN (cI d8 (aF aN (a6 1) ak (λ_ _=>rfl)) aK (cP _)) (aL (bx (bf (dw (dU (a6 0) T.cl NU.m NU.ok hr NU.b .nil aU (d0 (bf (aM aK (cF (aF aN (a6 1) ak (λ_ _=>rfl)) (cF (aF aN (a6 2) ak (λ_ _=>rfl)) a7)))) a7)) (cF (aF aN (a6 2) ak (λ_ _=>rfl)) a7))))) cW)<|
  aL (bx (bf (dw (dU (a6 0) T.cl NU.m NU.ok hr NU.b .nil aU (d0 (bf (aM aK (cF (aF aN (a6 2) ak (λ_ _=>rfl)) a7))) a7)) (cF (aF aN (a6 2) ak (λ_ _=>rfl)) a7)))),?_⟩
 obtain⟨⟨dx,hp⟩,⟨as,hla,zx⟩,hnu,hle,qC,wf⟩:=id N;have hli:=hi.len wf;have hlt:=hi.lt;have hat:dN (L.map zl6) ((i:Nat):Int)=some (zl6 (zk4 (aQ (zm7 q) false))):=gF (by rw[getElem?_map,hli];rfl);cases q with
 |flat q1=>
  obtain⟨a1,hr1,_⟩:=hP;refine⟨_,rfl,r,_,_,_,rfl,rfl,a9.of hr1,rfl,rfl,_,rfl,cG ⋯ ⟨_,rfl,t,_,_,_,rfl,rfl,a9.of ht,rfl,_,rfl,t,_,_,_,rfl,rfl,a9.of ht,rfl,aC,λt2 ig=>?_⟩⟩;have s2:=ao ig (.tup [.int (j:Nat),.int (j:Nat)]);exact out t2 Tb L _ (N.mono s2) (Pre.refl _) (by omega) ⟨j,j,a8,hj,hj⟩ (eU.of s2)
 |nest n q1=>
  obtain⟨a1,hr1,_⟩:=hP;refine⟨_,rfl,r,_,_,_,rfl,rfl,a9.of hr1,rfl,rfl,_,rfl,aP ⋯ ?_⟩;refine⟨_,rfl,p,C,dx,_,_,rfl,hp,T.cl,T.p9,qy _ _ _,_,rfl,t,_,_,_,rfl,rfl,a9.of ht,rfl,ga,_,_,_,rfl,rfl,aG.of hle,hat,_,rfl,?_⟩;have ht0:aQ (.nest n q1) true=aQ q1 true:=VJ n q1;have qD:aQ (.nest n q1) false=if(zk4 (aQ q1 false)).isSome=true then aQ q1 false else .nest n (aQ q1 false):=rfl
  show if(!decide (zl6 (zk4 (aQ q1 false))=.non))=true then _ else _
  cases c:zk4 (aQ q1 false) with
  |some m=>
   rw[c,if_pos (by rfl:(some m).isSome=true)] at qD
   refine cG (by show(!decide (V.int (m:Nat)=V.non))=true;rw[decide_eq_false (λz=>by cases z)];rfl) ⟨_,rfl,?_⟩;exact out t Tb L H N (Pre.refl _) (by omega) ⟨i,j,ht,by rw[qD];exact hi,by rw[ht0];exact hj⟩ eU.refl
  |none=>
   rw[c,if_neg (by decide:¬((none:Option Nat).isSome=true))] at qD
   refine aP (by show ¬(!decide (V.non=V.non))=true;decide) ?_;refine⟨_,rfl,r,_,_,_,rfl,rfl,a9.of hr1,rfl,rfl,_,rfl,cG ⋯ ?_⟩;refine⟨_,rfl,p,dx,_,rfl,hp,jc _ _ _ ⋯ ⋯ ⋯,_,rfl,r,_,_,_,rfl,rfl,a9.of hr1,rfl,_,rfl,t,_,_,_,rfl,rfl,a9.of ht,rfl,aC,λt2 ig=>?_⟩;have s2:=ao ig (.tup [.str "nest",.int (n:Nat),.int (i:Nat)])
   refine⟨p,t2,la,na,ga,.nest n i,Tb,L,rfl,N.mono s2,a8,hlt,by omega,λk T2 L2 H2 N2 p2 z2 hk2 b2=>?_⟩;have J2:bQ H H2:=(bQ.of s2).trans ((N.mono s2).tups b2);refine⟨_,rfl,t,_,_,_,rfl,rfl,a9.of (J2 _ _ ht),rfl,aC,λt3 jw=>?_⟩;have s3:=ao jw (.tup [.int (k:Nat),.int (j:Nat)]);exact out t3 T2 L2 _ (N2.mono s3) p2 (by omega) ⟨k,j,a8,by rw[qD];exact⟨i,hk2,hi.mono p2⟩,by rw[ht0];exact hj.mono p2⟩ ((eU.of s2).trans (b2.trans (eU.of s3)))
 |align q1=>
  obtain⟨a1,hr1,_⟩:=hP;refine⟨_,rfl,r,_,_,_,rfl,rfl,a9.of hr1,rfl,rfl,_,rfl,aP ⋯ ?_⟩;refine⟨_,rfl,p,C,dx,_,_,rfl,hp,T.cl,T.p9,qy _ _ _,_,rfl,t,_,_,_,rfl,rfl,a9.of ht,rfl,ga,_,_,_,rfl,rfl,aG.of hle,hat,_,rfl,?_⟩;have ht0:aQ (.align q1) true=aQ q1 true:=VL q1;have qD:aQ (.align q1) false=if(zk4 (aQ q1 false)).isSome=true then aQ q1 false else .align (aQ q1 false):=rfl
  show if(!decide (zl6 (zk4 (aQ q1 false))=.non))=true then _ else _
  cases c:zk4 (aQ q1 false) with
  |some m=>
   rw[c,if_pos (by rfl:(some m).isSome=true)] at qD
   refine cG (by show(!decide (V.int (m:Nat)=V.non))=true;rw[decide_eq_false (λz=>by cases z)];rfl) ⟨_,rfl,?_⟩;exact out t Tb L H N (Pre.refl _) (by omega) ⟨i,j,ht,by rw[qD];exact hi,by rw[ht0];exact hj⟩ eU.refl
  |none=>
   rw[c,if_neg (by decide:¬((none:Option Nat).isSome=true))] at qD
   refine aP (by show ¬(!decide (V.non=V.non))=true;decide) ?_;refine⟨_,rfl,r,_,_,_,rfl,rfl,a9.of hr1,rfl,rfl,_,rfl,aP ⋯ ?_⟩;refine⟨_,rfl,p,dx,_,rfl,hp,jc _ _ _ ⋯ ⋯ ⋯,_,rfl,t,_,_,_,rfl,rfl,a9.of ht,rfl,aC,λt2 ig=>?_⟩;have s2:=ao ig (.tup [.str "align",.int (i:Nat)])
   refine⟨p,t2,la,na,ga,.align i,Tb,L,rfl,N.mono s2,a8,hlt,by omega,λk T2 L2 H2 N2 p2 z2 hk2 b2=>?_⟩;have J2:bQ H H2:=(bQ.of s2).trans ((N.mono s2).tups b2);refine⟨_,rfl,t,_,_,_,rfl,rfl,a9.of (J2 _ _ ht),rfl,aC,λt3 jw=>?_⟩;have s3:=ao jw (.tup [.int (k:Nat),.int (j:Nat)]);exact out t3 T2 L2 _ (N2.mono s3) p2 (by omega) ⟨k,j,a8,by rw[qD];exact⟨i,hk2,hi.mono p2⟩,by rw[ht0];exact hj.mono p2⟩ ((eU.of s2).trans (b2.trans (eU.of s3)))
 |_=>cases hc
theorem FE (h:jf q=true):zk6 q=[]:=by cases q<;>first|rfl|cases h
theorem FG  {r:Addr}(h:aZ H q r)(hc:jf q=false):∃(p2:Plan) (a2:Addr) (ys:List V),H r=some (.tup ys)/\aZ H p2 a2/\zk6 q=q::zk6 p2/\p2.size<q.size/\dN ys (-1)=some (.ref a2):=by
 cases q with
 |nest n p2=>obtain⟨a2,e,q2⟩:=h;exact⟨p2,a2,_,e,q2,rfl,by simp only[Plan.size];omega,rfl⟩
 |align p2=>obtain⟨a2,e,q2⟩:=h;exact⟨p2,a2,_,e,q2,rfl,by simp only[Plan.size];omega,rfl⟩
 |flat p2=>obtain⟨a2,e,q2⟩:=h;exact⟨p2,a2,_,e,q2,rfl,by simp only[Plan.size];omega,rfl⟩
 |_=>cases hc
theorem Pre.le (h:Pre T T'):T.length<=T'.length:=by
 rcases Nat.eq_zero_or_pos T.length with z|z
 ·omega
 ·obtain⟨r,hr⟩:∃r,T[T.length - 1]? = some r:=⟨_,getElem?_eq_getElem (by omega)⟩
  have:=(List.getElem?_eq_some_iff.mp (h _ _ hr)).1;omega
abbrev wC:List Str:=["self","plan","pair_of_core"]
theorem W7:cQ ["self","plan","pair_of_core","pair","wrappers","wrapper"] wC (cg HN):=⟨rfl,rfl,rfl, ⋯,rfl, ⋯, ⋯⟩
theorem FH  (F:cA K "pair_of_plan" "Nodes.pair_of_plan" HN f fd)(T:k9 K mg C)(U:Iv K mg aW)(RD:MO P w K mg base C aB 3 fR rD "pair_round" ["self","wrapper","pair"] (C6 C)):aH P w K mg base aB 4 f fd wC (zy C):=by
 refine F.cU W7 (λvs H Q E h=>?_) (λcdv A outer s H vs Q E hr h=>?_)
 ·obtain⟨p,r,t,la,na,ga,q,T,L,rfl,_⟩:=h
  rfl
 obtain⟨p,r,t,la,na,ga,q,Tb,L,rfl,N,hz,hP,hT,out⟩:=h;have nd:=W7.nd
 refine⟨_,au (aO (i:=3) nd rfl (Or.inl rfl) (a6 2))<|
  au (aO (i:=4) nd rfl (Or.inl rfl) (cX a7))<|
  au (nT PassesOwn.never (cI qY (aF aN (a6 1) ak (λ_ _=>rfl)) (oO rfl U.mW (v:=.ref aW) rfl) rfl) (
   au (fZ (gG plainAttrs_list PySem.F.slot_list_append PySem.F.type_list_append ju (a6 4) (aq (a6 1) a7)))<|
   aL (aO (i:=1) nd rfl (Or.inl rfl) (aF aN (a6 1) (uy uc ak) (λ_ _=>rfl)))))<|
  au (lK PassesOwn.never rfl (Bf rfl T.rev (aq (a6 4) a7)) (jX (i:=5) nd rfl (Or.inl rfl)) (
   aL (aO (i:=3) nd rfl (Or.inl rfl) (dU (a6 0) T.cl RD.m RD.ok hr RD.b .nil aU (aq (a6 5) (aq (a6 3) a7))))))<|
  aL (bx (a6 3)),?_⟩
 obtain⟨⟨dx,hp⟩,⟨as0,hla,zx⟩,hnu,hle,qC,wf⟩:=id N;refine⟨_,rfl,aC,λD hD=>?_⟩;have s0:=ao hD (.lst []);have wF:D≠la:=λz=>by rw[z,hla] at hD;cases hD
 have wG:D≠na:=λz=>by rw[z,hnu] at hD;cases hD
 have wH:D≠ga:=λz=>by rw[z,hle] at hD;cases hD
 refine⟨λm σ H'=>∃(r':Addr) (q':Plan) (as:List Addr) (ws:List Plan),σ=[some (.ref p),some (.ref r'),some (.ref t),some (.ref t),some (.ref D),none]/\H' D=some (.lst (as.map V.ref))/\cM H' as ws/\zk6 q=ws++zk6 q'/\aZ H' q' r'/\Same H H'/\m=q'.size,
  ⟨q.size,r,q,[],[],rfl,a8,.nil,rfl,hP.mono (.of s0),s0,rfl⟩,?_⟩
 rintro m σ H' ⟨r',q',as,ws,rfl,hd,has,ew,hP',s1,rfl⟩
 obtain⟨xs,hx⟩:=wz hP';refine⟨_,rfl,r',_,_,.str (gP q'),rfl,rfl,a9.of hx,(by show dN (V.str (gP q')::xs) ((0:Nat):Int)=_;exact gF rfl),aW,_,rfl,.inr (U.sq H'),rfl,rfl,_,rfl,?_⟩;show if inV (.str (gP q')) nG=true then _ else _
 rw[Vs];have hal:=nA has;have hwl:=BX q;have hwn:(zk6 q).length=ws.length+(zk6 q').length:=by rw[ew,length_append]
 refine jH (λe=>?_) (λe=>?_)
 ·obtain⟨p2,a2,ys,hr2,hp2,e2,hs,hat⟩:=FG hP' (by cases h:jf q' with|false=>rfl|true=>rw[h] at e;cases e)
  exact
   ⟨λσ' fQ=>∃m',m'<q'.size/\∃(r':Addr) (q':Plan) (as:List Addr) (ws:List Plan),σ'=[some (.ref p),some (.ref r'),some (.ref t),some (.ref t),some (.ref D),none]/\fQ D=some (.lst (as.map V.ref))/\cM fQ as ws/\zk6 q=ws++zk6 q'/\aZ fQ q' r'/\Same H fQ/\m'=q'.size,λσ' fQ z=>z,
   _,rfl,.inl ⟨rfl,_,aG.of hd⟩,_,rfl,D,_,_,rfl,rfl,hd,lt_of_lt_of_le (show(as.map V.ref).length<1000001 by rw[length_map,hal];omega) (d4 (by omega)),
   _,rfl,_,rfl,r',ys,_,.ref a2,rfl,rfl,a9.of ((dX hd) _ _ hr2),hat,p2.size,hs,a2,p2,as++[r'],ws++[q'],rfl,(by rw[a8,map_append];rfl),iU (cM.mono (dX hd) has) (.cons (hP'.mono (dX hd)) .nil),(by rw[ew,e2,append_assoc];rfl),hp2.mono (dX hd),k6 s1 hD _,rfl⟩
 ·have FI:zk6 q'=[]:=FE (by cases h:jf q' with|true=>rfl|false=>rw[h] at e;exact absurd rfl e)
  have Cd:zk6 q=ws:=by rw[ew,FI,append_nil]
  have rev:cM H' as.reverse ws.reverse:=Bx has;have N1:=N.mono s1
  refine⟨_,rfl,D,_,rfl,aG.of hd,B9 (K:=K) (a:=D) (xs:=as.map V.ref) (λi σ H2=>∃(v5:Option V) (ti:Addr) (Ti:List Raw) (Li:List (Option Nat)),σ=[some (.ref p),some (.ref r'),some (.ref t),some (.ref ti),some (.ref D),v5]/\gH C H2 p la na ga Ti Li/\Pre Tb Ti/\Ti.length<=Tb.length+i/\nH H2 Ti ti (zm3 ((zk6 q).length - i) q)/\eU la na ga H' H2)
   ⟨_,t,Tb,L,rfl,N1,Pre.refl _,le_refl _,by rw[Nat.sub_zero,Ca];exact hT.mono (.of s1) (Pre.refl _),eU.refl⟩
   (λi σ H2 _ ⟨_,_,_,_,_,_,_,_,_,b⟩=>aG.of (b _ _ hd wF wG wH)) (λi x σ H2 hx hv=>by
    obtain⟨v5,ti,Ti,Li,rfl,Ni,pi,zi,hi,bi⟩:=hv;rw[<-map_reverse] at hx
    obtain⟨wa,wq,rfl,hwa,J3,hwp⟩:=rev.get hx;have hlt:i<ws.length:=by
     have:=(List.getElem?_eq_some_iff.mp J3).1
     rwa [length_reverse] at this
    rw[List.getElem?_reverse hlt] at J3
    obtain⟨e1,e2,e3⟩:=C9 q (ws.length - 1 - i) wq (by rw[Cd];exact J3);obtain⟨j5,hp2⟩:=Ni.ob;have Ce:ws.length - 1 - i+1=(zk6 q).length - i:=by rw[Cd];omega
    have FK:ws.length - 1 - i=(zk6 q).length - (i+1):=by rw[Cd];omega
    rw[Ce] at e3
    rw[FK] at e1
    have t2:bQ H' H2:=N1.tups bi;refine⟨_,rfl,p,j5,_,rfl,hp2,jc _ _ _ ⋯ ⋯ ⋯,_,rfl,_,rfl,?_⟩;refine⟨p,wa,ti,la,na,ga,wq,Ti,Li,rfl,Ni,by omega,hwp.mono t2,e2,by rw[e3];exact hi,λt3 T3 L3 H3 N3 p3 z3 h3 b3=>?_⟩
    exact⟨_,t3,T3,L3,rfl,N3,pi.trans p3,by omega,by rw[<-e1];exact h3,bi.trans b3⟩)
   (λσ H2 hv=>by
    obtain⟨v5,ti,Ti,Li,rfl,Ni,pi,zi,hi,bi⟩:=hv;rw[length_map,hal,<-Cd] at hi zi
    rw[Nat.sub_self] at hi
    exact⟨_,rfl,out ti Ti Li H2 Ni pi zi hi ((eU.of s1).trans bi)⟩)⟩
abbrev zE:List Str:=["self","core","first","second"]
theorem W8:cQ ["self","core","first","second","as_it_is"] zE (cg HJ):=⟨rfl,rfl,rfl, ⋯,rfl, ⋯, ⋯⟩
theorem FL  (F:cA K "pair_of_two" "Nodes.pair_of_two" HJ f fd)(T:k9 K mg C)(NU:MO P w K mg base C aB 2 fN nD "number_of" lY (wB C))(PL:MO P w K mg base C aB 4 fP pD "pair_of_plan" wC (zy C)):aH P w K mg base aB 5 f fd zE (C7 C):=by
 refine F.cU W8 (λvs H Q E h=>?_) (λcdv A outer s H vs Q E hr h=>?_)
 ·obtain⟨p,r,t1,t2,la,na,ga,x,y,c,a,b,T,L,rfl,_⟩:=h
  rfl
 obtain⟨p,r,t1,t2,la,na,ga,x,y,c,a,b,Tb,L,rfl,N,hz,hc,hx,hy,h1,h2,out⟩:=h;have nd:=W8.nd;have hr2:cZ 2 _:=hr.mono (by decide)
 refine⟨_,au (aO (i:=2) nd rfl (Or.inl rfl) (dU (a6 0) T.cl PL.m PL.ok hr PL.b .nil aU (cF (aF aN (a6 1) ak (λ_ _=>rfl)) (aq (a6 2) a7))))<|
  au (aO (i:=3) nd rfl (Or.inl rfl) (dU (a6 0) T.cl PL.m PL.ok hr PL.b .nil aU (cF (aF aN (a6 1) ak (λ_ _=>rfl)) (aq (a6 3) a7))))<|
  au (aO (i:=4) nd rfl (Or.inl rfl) (dU (a6 0) T.cl NU.m NU.ok hr2 NU.b .nil aU (d0 (bf (cF (aF aN (a6 1) ak (λ_ _=>rfl)) (cF (aF aN (a6 2) ak (λ_ _=>rfl)) (cF (aF aN (a6 3) ak (λ_ _=>rfl)) a7)))) a7)))<|
  aL (bx (bf (aq (a6 4) (dw (dU (a6 0) T.cl NU.m NU.ok hr2 NU.b .nil aU (d0 (bf (cF (aF aN (a6 1) ak (λ_ _=>rfl)) (cF (aF aN (a6 2) ak (λ_ _=>rfl)) (cF (aF aN (a6 3) ak (λ_ _=>rfl)) a7)))) a7)) a7)))),?_⟩
 rcases hc with⟨rfl,hc⟩|⟨rfl,hc⟩
 ·obtain⟨dx,hp⟩:=N.ob
  refine⟨_,rfl,p,dx,_,rfl,hp,jc _ _ _ ⋯ ⋯ ⋯,_,rfl,r,_,_,.ref x,rfl,rfl,a9.of hc,rfl,_,rfl,?_⟩;refine⟨p,x,t1,la,na,ga,a,Tb,L,rfl,N,by omega,hx,h1,λu1 T1 L1 H1 N1 p1 z1 ⟨i1,j1,e1,g1,k1⟩ b1=>?_⟩;have s1:=N.tups b1;obtain⟨o8,hp1⟩:=N1.ob;refine⟨_,rfl,p,o8,_,rfl,hp1,jc _ _ _ ⋯ ⋯ ⋯,_,rfl,r,_,_,.ref y,rfl,rfl,a9.of (s1 _ _ hc),rfl,_,rfl,?_⟩;refine⟨p,y,t2,la,na,ga,b,T1,L1,rfl,N1,by omega,hy.mono s1,h2.mono s1 p1,λu2 T2 L2 H2 N2 p2 z2 ⟨i2,j2,e2,g2,k2⟩ b2=>?_⟩;have s2:=N1.tups b2;obtain⟨j5,hp2⟩:=N2.ob;refine⟨_,rfl,p,j5,_,rfl,hp2,jc _ _ _ ⋯ ⋯ ⋯,_,rfl,r,_,_,.str "beside",rfl,rfl,a9.of (s2 _ _ (s1 _ _ hc)),rfl,_,rfl,u1,_,_,.int (i1:Nat),rfl,rfl,a9.of (s2 _ _ e1),rfl,_,rfl,u2,_,_,.int (i2:Nat),rfl,rfl,a9.of e2,rfl,aC,λu3 m8=>?_⟩
  have s3:=ao m8 (.tup [.str "beside",.int (i1:Nat),.int (i2:Nat)])
  have m1:=(g1.mono p2).lt;have m2:=g2.lt;have n1:=(k1.mono p2).lt;have n2:=k2.lt;refine⟨p,u3,la,na,ga,.beside i1 i2,T2,L2,rfl,N2.mono s3,a8,⟨m1,m2⟩,by omega,λk T3 L3 H3 N3 p3 z3 hk3 b3=>?_⟩;have s4:bQ H2 H3:=(bQ.of s3).trans ((N2.mono s3).tups b3);obtain⟨lZ,hp3⟩:=N3.ob;refine⟨_,rfl,_,rfl,p,lZ,_,rfl,hp3,jc _ _ _ ⋯ ⋯ ⋯,_,rfl,r,_,_,.str "beside",rfl,rfl,a9.of (s4 _ _ (s2 _ _ (s1 _ _ hc))),rfl,_,rfl,u1,_,_,.int (j1:Nat),rfl,rfl,a9.of (s4 _ _ (s2 _ _ e1)),rfl,_,rfl,u2,_,_,.int (j2:Nat),rfl,rfl,a9.of (s4 _ _ e2),rfl,aC,λu4 J4=>?_⟩
  have s5:=ao J4 (.tup [.str "beside",.int (j1:Nat),.int (j2:Nat)])
  have q3:=p3.le;refine⟨p,u4,la,na,ga,.beside j1 j2,T3,L3,rfl,N3.mono s5,a8,⟨by omega,by omega⟩,by omega,λk' T4 L4 H4 N4 p4 z4 J5 b4=>?_⟩;refine⟨aC,λu5 J6=>?_⟩;have s6:=ao J6 (.tup [.int (k:Nat),.int (k':Nat)]);exact out u5 T4 L4 _ (N4.mono s6) (p1.trans (p2.trans (p3.trans p4))) (by omega) ⟨k,k',a8,⟨i1,i2,p4 _ _ hk3,g1.mono (p2.trans (p3.trans p4)),g2.mono (p3.trans p4)⟩,⟨j1,j2,J5,k1.mono (p2.trans (p3.trans p4)),k2.mono (p3.trans p4)⟩⟩
   (b1.trans (b2.trans ((eU.of s3).trans (b3.trans ((eU.of s5).trans (b4.trans (eU.of s6)))))))
 ·obtain⟨dx,hp⟩:=N.ob
  refine⟨_,rfl,p,dx,_,rfl,hp,jc _ _ _ ⋯ ⋯ ⋯,_,rfl,r,_,_,.ref x,rfl,rfl,a9.of hc,rfl,_,rfl,?_⟩;refine⟨p,x,t1,la,na,ga,a,Tb,L,rfl,N,by omega,hx,h1,λu1 T1 L1 H1 N1 p1 z1 ⟨i1,j1,e1,g1,k1⟩ b1=>?_⟩;have s1:=N.tups b1;obtain⟨o8,hp1⟩:=N1.ob;refine⟨_,rfl,p,o8,_,rfl,hp1,jc _ _ _ ⋯ ⋯ ⋯,_,rfl,r,_,_,.ref y,rfl,rfl,a9.of (s1 _ _ hc),rfl,_,rfl,?_⟩;refine⟨p,y,t2,la,na,ga,b,T1,L1,rfl,N1,by omega,hy.mono s1,h2.mono s1 p1,λu2 T2 L2 H2 N2 p2 z2 ⟨i2,j2,e2,g2,k2⟩ b2=>?_⟩;have s2:=N1.tups b2;obtain⟨j5,hp2⟩:=N2.ob;refine⟨_,rfl,p,j5,_,rfl,hp2,jc _ _ _ ⋯ ⋯ ⋯,_,rfl,r,_,_,.str "choice",rfl,rfl,a9.of (s2 _ _ (s1 _ _ hc)),rfl,_,rfl,u1,_,_,.int (i1:Nat),rfl,rfl,a9.of (s2 _ _ e1),rfl,_,rfl,u2,_,_,.int (i2:Nat),rfl,rfl,a9.of e2,rfl,aC,λu3 m8=>?_⟩
  have s3:=ao m8 (.tup [.str "choice",.int (i1:Nat),.int (i2:Nat)])
  have m1:=(g1.mono p2).lt;have m2:=g2.lt;have n1:=(k1.mono p2).lt;have n2:=k2.lt;refine⟨p,u3,la,na,ga,.choice i1 i2,T2,L2,rfl,N2.mono s3,a8,⟨m1,m2⟩,by omega,λk T3 L3 H3 N3 p3 z3 hk3 b3=>?_⟩;have s4:bQ H2 H3:=(bQ.of s3).trans ((N2.mono s3).tups b3);obtain⟨lZ,hp3⟩:=N3.ob;refine⟨_,rfl,_,rfl,p,lZ,_,rfl,hp3,jc _ _ _ ⋯ ⋯ ⋯,_,rfl,r,_,_,.str "choice",rfl,rfl,a9.of (s4 _ _ (s2 _ _ (s1 _ _ hc))),rfl,_,rfl,u1,_,_,.int (j1:Nat),rfl,rfl,a9.of (s4 _ _ (s2 _ _ e1)),rfl,_,rfl,u2,_,_,.int (j2:Nat),rfl,rfl,a9.of (s4 _ _ e2),rfl,aC,λu4 J4=>?_⟩
  have s5:=ao J4 (.tup [.str "choice",.int (j1:Nat),.int (j2:Nat)])
  have q3:=p3.le;refine⟨p,u4,la,na,ga,.choice j1 j2,T3,L3,rfl,N3.mono s5,a8,⟨by omega,by omega⟩,by omega,λk' T4 L4 H4 N4 p4 z4 J5 b4=>?_⟩;refine⟨aC,λu5 J6=>?_⟩;have s6:=ao J6 (.tup [.int (k:Nat),.int (k':Nat)]);exact out u5 T4 L4 _ (N4.mono s6) (p1.trans (p2.trans (p3.trans p4))) (by omega) ⟨k,k',a8,⟨i1,i2,p4 _ _ hk3,g1.mono (p2.trans (p3.trans p4)),g2.mono (p3.trans p4)⟩,⟨j1,j2,J5,k1.mono (p2.trans (p3.trans p4)),k2.mono (p3.trans p4)⟩⟩
   (b1.trans (b2.trans ((eU.of s3).trans (b3.trans ((eU.of s5).trans (b4.trans (eU.of s6)))))))
theorem J7(s:List V)(v:V):(s++[v])[(s++[v]).length - 1]? = some v:=by simp
theorem FM{c a b:Plan}(h:g8 c=iH a b){st st':List Plan}(hs:jg c st=some st'):
  (zk8 a=zk8 b/\(g8 c).length=1/\∃rs,st=zk8 a::rs/\st'=c::rs)\/(zk8 a≠zk8 b/\(g8 c).length=2/\∃rs,st=zk8 b::zk8 a::rs/\st'=c::rs):=by
 unfold iH at h
 unfold jg at hs
 rw[h] at hs ⊢
 by_cases e:zk8 a=zk8 b
 ·rw[if_pos e] at hs ⊢
  refine .inl ⟨e,rfl,?_⟩;cases st with
  |nil=>cases hs
  |cons x r=>
   have hs:(if x=zk8 a then some (c::r) else none)=some st':=hs
   split at hs
   ·rename_i hx;cases hs;exact⟨r,by rw[hx],rfl⟩
   ·cases hs
 ·rw[if_neg e] at hs ⊢
  refine .inr ⟨e,rfl,?_⟩;cases st with
  |nil=>cases hs
  |cons y st=>
   cases st with
   |nil=>cases hs
   |cons x r=>
    have hs:(if x=zk8 a/\y=zk8 b then some (c::r) else none)=some st':=hs
    split at hs
    ·rename_i hx;cases hs;exact⟨r,by rw[hx.1,hx.2],rfl⟩
    ·cases hs
theorem wI:∀p:Plan,(zk6 p).length<=p.deep
 |.text _=>zero_le _
 |.line=>zero_le _
 |.cut=>zero_le _
 |.nest _ p=>succ_le_succ (wI p)
 |.align p=>succ_le_succ (wI p)
 |.flat p=>succ_le_succ (wI p)
 |.beside _ _=>zero_le _
 |.choice _ _=>zero_le _
theorem sV:∀(p q:Plan),q∈cO p->q.deep<=p.deep/\q.grow<=p.grow/\jf q=true
 |.text _,q,h=>by rw[List.mem_singleton.mp h];exact⟨le_refl _,le_refl _,rfl⟩
 |.line,q,h=>by rw[List.mem_singleton.mp h];exact⟨le_refl _,le_refl _,rfl⟩
 |.cut,q,h=>by rw[List.mem_singleton.mp h];exact⟨le_refl _,le_refl _,rfl⟩
 |.nest _ p,q,h=>by have:=sV p q h;simp only[Plan.deep,Plan.grow];exact⟨by omega,by omega,this.2.2⟩
 |.align p,q,h=>by have:=sV p q h;simp only[Plan.deep,Plan.grow];exact⟨by omega,by omega,this.2.2⟩
 |.flat p,q,h=>by have:=sV p q h;simp only[Plan.deep,Plan.grow];exact⟨by omega,by omega,this.2.2⟩
 |.beside a b,q,h=>by
  have hq:q∈cO a\/q∈cO b\/q=.beside a b:=by
   simp only[cO] at h
   split at h<;>simp at h<;>rcases h with z|z<;>simp_all
  rcases hq with z|z|z
  ·have:=sV a q z;simp only[Plan.deep,Plan.grow];exact⟨by omega,by omega,this.2.2⟩
  ·have:=sV b q z;simp only[Plan.deep,Plan.grow];exact⟨by omega,by omega,this.2.2⟩
  ·rw[z];exact⟨le_refl _,le_refl _,rfl⟩
 |.choice a b,q,h=>by
  have hq:q∈cO a\/q∈cO b\/q=.choice a b:=by
   simp only[cO] at h
   split at h<;>simp at h<;>rcases h with z|z<;>simp_all
  rcases hq with z|z|z
  ·have:=sV a q z;simp only[Plan.deep,Plan.grow];exact⟨by omega,by omega,this.2.2⟩
  ·have:=sV b q z;simp only[Plan.deep,Plan.grow];exact⟨by omega,by omega,this.2.2⟩
  ·rw[z];exact⟨le_refl _,le_refl _,rfl⟩
theorem FO{c:Plan}(h:jf c=true):jP c=true\/∃a b,c=.beside a b\/c=.choice a b:=by
 cases c with
 |beside a b=>exact .inr ⟨a,b,.inl rfl⟩
 |choice a b=>exact .inr ⟨a,b,.inr rfl⟩
 |nest _ _=>cases h
 |align _=>cases h
 |flat _=>cases h
 |_=>exact .inl rfl
theorem W9{c:Plan}(h:jP c=true):g8 c=[]:=by cases c<;>first|rfl|cases h
theorem FR{c a b:Plan}(h:c=.beside a b\/c=.choice a b):g8 c=iH a b:=by rcases h with rfl|rfl<;>rfl
theorem FU {c a b:Plan}{r:Addr}(h:c=.beside a b\/c=.choice a b)(hp:aZ H c r):∃x y,H r=some (.tup [.str (gP c),.ref x,.ref y])/\aZ H a x/\aZ H b y/\(zk6 a).length<=c.deep/\(zk6 b).length<=c.deep:=by
 have w1:=wI a;have w2:=wI b;rcases h with rfl|rfl
 ·obtain⟨x,y,e,q,q'⟩:=hp;exact⟨x,y,e,q,q',by simp only[Plan.deep];omega,by simp only[Plan.deep];omega⟩
 ·obtain⟨x,y,e,q,q'⟩:=hp;exact⟨x,y,e,q,q',by simp only[Plan.deep];omega,by simp only[Plan.deep];omega⟩
theorem Wa {c a b:Plan}{r x y:Addr}(h:c=.beside a b\/c=.choice a b)(e:H r=some (.tup [.str (gP c),.ref x,.ref y])):(c=.beside a b/\H r=some (.tup [.str "beside",.ref x,.ref y]))\/(c=.choice a b/\H r=some (.tup [.str "choice",.ref x,.ref y])):=by
 rcases h with rfl|rfl
 ·exact .inl ⟨rfl,e⟩
 ·exact .inr ⟨rfl,e⟩
abbrev qF(H:Hp)(T:List Raw):List Addr->List Plan->Prop:=Paired (nH H T)
theorem qF.mono{H H':Hp}{T T':List Raw}(h:bQ H H')(hp:Pre T T'){as:List Addr}{ps:List Plan}(r:qF H T as ps):qF H' T' as ps:=Paired.gJ r λ_ _ e=>e.mono h hp
theorem Wb:cQ ["self","plan","pairs","step","second","first"] ["self","plan"] (cg HD):=⟨rfl,rfl,rfl, ⋯,rfl, ⋯, ⋯⟩
theorem FV{fT:Addr}{oD:FuncData}(F:cA K "root_of" "Nodes.root_of" HD f fd)(T:k9 K mg C)(LV:MO P w K mg base C aB 3 fL lD "pair_of_leaf" ["self","leaf"] (C5 C))(TW:MO P w K mg base C aB 5 fT tD "pair_of_two" zE (C7 C))(PL:MO P w K mg base C aB 4 fP pD "pair_of_plan" wC (zy C))
  (GO:aH P w K mg base aB 3 fO oD ["plan"] Iz) (bO:Binds K oD ["plan"] []) (kO:keepIn K (.ref fO)=true) (mO:mg "cores_from_outside"=some (.ref fO)):aH P w K mg base aB 6 f fd ["self","plan"] (C8 C):=by
 refine F.cU Wb (λvs H Q E h=>?_) (λcdv A outer s H vs Q E hr h=>?_)
 ·obtain⟨p,r,la,na,ga,q,rfl,_⟩:=h
  rfl
 obtain⟨o,r,la,na,ga,p,rfl,N,hP,hl,hdp,hz,hcp,hgr,q⟩:=h;have nd:=Wb.nd
 refine⟨_,au (aO (i:=2) nd rfl (Or.inl rfl) (cX a7))<|
  au (lK PassesOwn.never rfl (Bf rfl T.rev (dw (c9 GO (hr.mono (by decide)) rfl mO kO bO .nil aU (aq (a6 1) a7)) a7)) (jX (i:=3) nd rfl (Or.inl rfl)) (
   au (cN (cI d8 (aF aN (a6 3) ak (λ_ _=>rfl)) ak (cP _)) (au (fZ (gG plainAttrs_list PySem.F.slot_list_append PySem.F.type_list_append ju (a6 2) (dw (dU (a6 0) T.cl LV.m LV.ok (hr.mono (by decide)) LV.b .nil aU (cF (aF aN (a6 3) ak (λ_ _=>rfl)) a7)) a7))) (aL FJ)) cW)<|
   au (aO (i:=4) nd rfl (Or.inl rfl) (uE plainAttrs_list slot_list_pop type_list_pop uq (a6 2)))<|
   au (aO (i:=5) nd rfl (Or.inl rfl) (jL (cI d8 (aF aN (a6 3) ak (λ_ _=>rfl)) ak (cP _)) (uE plainAttrs_list slot_list_pop type_list_pop uq (a6 2)) (a6 4)))<|
   aL (fZ (gG plainAttrs_list PySem.F.slot_list_append PySem.F.type_list_append ju (a6 2) (dw (dU (a6 0) T.cl TW.m TW.ok hr TW.b .nil aU (cF (aF aN (a6 3) ak (λ_ _=>rfl)) (aq (a6 5) (aq (a6 4) a7)))) a7)))))<|
  aL (bx (aF aN (dU (a6 0) T.cl PL.m PL.ok (hr.mono (by decide)) PL.b .nil aU (aq (a6 1) (cF (aF gK (a6 2) ak (λ_ _=>rfl)) a7))) ak (λ_ _=>rfl))),?_⟩
 obtain⟨⟨dx,hp⟩,⟨as0,hla,zx⟩,hnu,hle,qC,wf⟩:=id N;refine⟨aC,λD hD=>?_⟩;have s0:=ao hD (.lst []);have wF:D≠la:=λz=>by rw[z,hla] at hD;cases hD
 have wG:D≠na:=λz=>by rw[z,hnu] at hD;cases hD
 have wH:D≠ga:=λz=>by rw[z,hle] at hD;cases hD
 have zF:D≠o:=λz=>by rw[z,hp] at hD;cases hD
 refine⟨_,rfl,r,p,rfl,hP.mono (.of s0),hl,hdp,by omega,λl ts H1 s1 n1 e1 P1=>?_⟩;have nl:l≠D:=λz=>by rw[z,a8] at n1;cases n1
 have wJ:=s0.free n1;have FX:l≠la:=λz=>by rw[z,hla] at wJ;cases wJ
 have zq:l≠na:=λz=>by rw[z,hnu] at wJ;cases wJ
 have FY:l≠ga:=λz=>by rw[z,hle] at wJ;cases wJ
 have hlen:=lQ P1;rw[length_reverse] at hlen
 have hml:(ts.map V.ref).length=(cO p).length:=by rw[length_map,hlen]
 have rev:k7 H1 ts.reverse (cO p):=by
  have z:=Bx P1
  rwa [reverse_reverse] at z
 have cpl:=(oX p).1;have hD1:H1 D=some (.lst []):=s1 _ _ a8
 refine⟨l,_,rfl,aG.of e1,B9 (K:=K) (a:=l) (xs:=ts.map V.ref) (λi σ H2=>∃(v3 v4 v5:Option V) (st:List Plan) (as:List Addr) (Ti:List Raw) (Li:List (Option Nat)),σ=[some (.ref o),some (.ref r),some (.ref D),v3,v4,v5]/\iI ((cO p).take i) []=some st/\H2 D=some (.lst (as.map V.ref))/\qF H2 Ti as st.reverse/\gH C H2 o la na ga Ti Li/\Ti.length<=i*1300/\(∀b o,H1 b=some o->b≠D->b≠la->b≠na->b≠ga->H2 b=some o))
  ⟨_,_,_,[],[],[],[],rfl,rfl,hD1,.nil,N.mono (s0.trans s1),zero_le _,λ_ _ e _ _ _ _=>e⟩ (λi σ H2 _ ⟨_,_,_,_,_,_,_,_,_,_,_,_,_,k⟩=>aG.of (k _ _ e1 nl FX zq FY)) ?_ ?_⟩
 ·rintro i x σ H2 hx ⟨v3,v4,v5,st,as,Ti,Li,rfl,hst,hd,hpa,Ni,hti,k2⟩
  have hi:i<(cO p).length:=by
   have:=(List.getElem?_eq_some_iff.mp hx).1
   rwa [length_reverse,hml] at this
  rw[<-map_reverse] at hx
  obtain⟨t,c,rfl,hct,a,ha,hpl⟩:=rev.get hx;obtain⟨st1,st',q1,q2,q3⟩:=BO p i c hct;rw[hst] at q1
  cases q1;have t2:bQ H1 H2:=λb xs e=>k2 _ _ e (cR e hD1 (by intro z;cases z)) (cR e (s1 _ _ (s0 _ _ hla)) (by intro z;cases z)) (cR e (s1 _ _ (s0 _ _ hnu)) (by intro z;cases z)) (cR e (s1 _ _ (s0 _ _ hle)) (by intro z;cases z))
  have Wc:=hpl.mono t2;have ha2:=t2 _ _ ha;obtain⟨cm1,cm2,Gc⟩:=sV p c (mem_of_getElem? hct);have J8:as.length<=100000:=by
   have z:=UJ _ _ _ hst;have y:=lQ hpa;rw[length_reverse] at y
   rw[length_take] at z
   simp at z
   omega
  have J9:∀ {i j:Int},¬i=j->¬(decide (V.int i=V.int j)=true):=λh z=>h (V.int.inj (of_decide_eq_true z))
  have Wd:∀ {i j:Int},i=j->decide (V.int i=V.int j)=true:=λh=>decide_eq_true (congrArg V.int h)
  have fin:∀(bs:List Addr) (ss:List Plan) (u:Addr) (T3:List Raw) (L3:List (Option Nat)) (o9 H3:Hp),(∀c o,H2 c=some o->c≠D->o9 c=some o)->o9 D=some (.lst (bs.map V.ref))->gH C o9 o la na ga Ti Li->qF o9 Ti bs ss.reverse->st'=c::ss->gH C H3 o la na ga T3 L3->Pre Ti T3->T3.length<=Ti.length+1300->nH H3 T3 u c->eU la na ga o9 H3->bs.length<=100000->H3 D=some (.lst (bs.map V.ref))/\(bs.map V.ref).length<2 ^ 24/\
    ∃(v3 v4 v5:Option V) (st:List Plan) (as:List Addr) (Tj:List Raw) (Lj:List (Option Nat)),iI ((cO p).take (i+1)) []=some st/\(upd H3 D (.lst (bs.map V.ref++[.ref u]))) D=some (.lst (as.map V.ref))/\qF (upd H3 D (.lst (bs.map V.ref++[.ref u]))) Tj as st.reverse/\gH C (upd H3 D (.lst (bs.map V.ref++[.ref u]))) o la na ga Tj Lj/\Tj.length<=(i+1)*1300/\(∀b o,H1 b=some o->b≠D->b≠la->b≠na->b≠ga->(upd H3 D (.lst (bs.map V.ref++[.ref u]))) b=some o):=λbs ss u T3 L3 o9 H3 k' hd' N' GB est N3 p3 z3 u3 b3 bl=>by
   have gw:H3 D=some (.lst (bs.map V.ref)):=b3 _ _ hd' wF wG wH;have tu:bQ H3 (upd H3 D (.lst (bs.map V.ref++[.ref u]))):=dX gw;have GH:bQ o9 H3:=N'.tups b3;refine⟨gw,lt_of_lt_of_le (show(bs.map V.ref).length<1000001 by rw[length_map];omega) (d4 (by omega)),none,none,none,st',bs++[u],T3,L3,q3,by rw[a8,map_append];rfl,?_,?_,by omega,λb o e h1 h2 h3 h4=>by rw[aJ h1];exact b3 _ _ (k' _ _ (k2 _ _ e h1 h2 h3 h4) h1) h2 h3 h4⟩
   ·rw[est,reverse_cons]
    exact iU (qF.mono (GH.trans tu) p3 GB) (.cons (u3.mono tu (Pre.refl _)) .nil)
   ·obtain⟨⟨lZ,hp3⟩,⟨zG,zH,zJ⟩,zK,zL,_,zM⟩:=N3
    exact⟨⟨lZ,by rw[aJ zF.symm];exact hp3⟩,⟨zG,by rw[aJ wF.symm];exact zH,zJ.mono tu⟩,by rw[aJ wG.symm];exact zK,by rw[aJ wH.symm];exact zL,qC,zM⟩
  have lw:sizeLine=sizeLine:=rfl;obtain⟨j5,hp2⟩:=Ni.ob;refine⟨_,rfl,t,_,_,.int ((g8 c).length:Nat),rfl,rfl,a9.of ha2,rfl,rfl,_,rfl,?_⟩;rcases FO Gc with Ja|⟨p1,p2,hcc⟩
  ·
   have e3:st'=c::st:=by
    unfold jg at q2
    rw[W9 Ja] at q2
    exact(Option.some.inj q2).symm
   refine cG (Wd (by rw[W9 Ja];rfl)) ?_;refine⟨_,rfl,.inl ⟨rfl,_,aG.of hd⟩,_,rfl,o,j5,_,rfl,hp2,jc _ _ _ ⋯ ⋯ ⋯,_,rfl,t,_,_,.ref a,rfl,rfl,a9.of ha2,rfl,?_⟩;refine⟨o,a,la,na,ga,c,Ti,Li,rfl,Ni,by omega,Wc,Ja,by omega,λu T3 L3 H3 N3 p3 z3 u3 b3=>?_⟩;obtain⟨f1,f2,Wf,Wg,Wh,st2,as2,Tj,Lj,f3⟩:=fin as st u T3 L3 H2 H3 (λc o e _=>e) hd Ni hpa e3 N3 p3 (by omega) u3 b3 J8;exact⟨D,_,_,rfl,rfl,f1,f2,_,_,_,st2,as2,Tj,Lj,rfl,f3⟩
  ·obtain⟨x1,x2,hc2,hx1,hx2,w1,w2⟩:=FU hcc Wc
   have ek:=FR hcc;rcases FM (a:=p1) (b:=p2) ek q2 with⟨e,en,rs,rfl,rfl⟩|⟨e,en,rs,rfl,rfl⟩
   ·refine aP (J9 (by rw[en];decide)) ?_
    rw[reverse_cons] at hpa
    obtain⟨bs,u1,rfl,hbs,hu1⟩:=rR hpa;rw[map_append] at hd
    refine⟨_,rfl,.inl ⟨rfl,_,aG.of hd⟩,D,_,_,rfl,rfl,hd,J7 _ _,?_⟩;show Ec _ _ _ _ (upd H2 D (.lst (bs.map V.ref++[V.ref u1]).dropLast));rw[dropLast_concat];have tk:bQ H2 (upd H2 D (.lst (bs.map V.ref))):=dX hd;have N':gH C (upd H2 D (.lst (bs.map V.ref))) o la na ga Ti Li:=by
     obtain⟨⟨lZ,hp3⟩,⟨zG,zH,zJ⟩,zK,zL,_,zM⟩:=Ni;exact⟨⟨lZ,by rw[aJ zF.symm];exact hp3⟩,⟨zG,by rw[aJ wF.symm];exact zH,zJ.mono tk⟩,by rw[aJ wG.symm];exact zK,by rw[aJ wH.symm];exact zL,qC,zM⟩
    have ha3:=tk _ _ ha2;have hc3:=Wa hcc (tk _ _ hc2);have gw:(upd H2 D (.lst (bs.map V.ref))) D=some (.lst (bs.map V.ref)):=a8;have k3:∀c o,H2 c=some o->c≠D->(upd H2 D (.lst (bs.map V.ref))) c=some o:=λc o e h=>by rw[aJ h];exact e
    have zN:=hx1.mono tk;have zO:=hx2.mono tk;have hbs':=qF.mono tk (Pre.refl _) hbs;have wK:=hu1.mono tk (Pre.refl _);have hp3:(upd H2 D (.lst (bs.map V.ref))) o=some (.ins C j5 (nf la na ga)):=k3 _ _ hp2 zF.symm
    generalize upd H2 D (.lst (bs.map V.ref))=o9 at tk N' ha3 hc3 gw k3 zN zO hbs' wK hp3 ⊢
    refine⟨_,rfl,t,_,_,_,rfl,rfl,a9.of ha3,rfl,rfl,_,rfl,aP (J9 (by rw[en];decide)) ⟨_,rfl,?_⟩⟩;refine⟨_,rfl,.inl ⟨rfl,_,aG.of gw⟩,_,rfl,o,j5,_,rfl,hp3,jc _ _ _ ⋯ ⋯ ⋯,_,rfl,t,_,_,.ref a,rfl,rfl,a9.of ha3,rfl,_,rfl,_,rfl,?_⟩;refine⟨o,a,u1,u1,la,na,ga,x1,x2,c,p1,p2,Ti,Li,rfl,N',by omega,hc3,zN,zO,wK,by rw[<-e];exact wK,λu T3 L3 H3 N3 p3 z3 u3 b3=>?_⟩;obtain⟨f1,f2,Wf,Wg,Wh,st2,as2,Tj,Lj,f3⟩:=fin bs rs u T3 L3 o9 H3 k3 gw N' hbs' rfl N3 p3 (by omega) u3 b3 (by simp at J8;omega);exact⟨D,_,_,rfl,rfl,f1,f2,_,_,_,st2,as2,Tj,Lj,rfl,f3⟩
   ·refine aP (J9 (by rw[en];decide)) ?_
    rw[reverse_cons,reverse_cons] at hpa
    obtain⟨bs',u2,rfl,hbs,hu2⟩:=rR hpa;obtain⟨bs,u1,rfl,hbs,hu1⟩:=rR hbs;rw[map_append] at hd
    refine⟨_,rfl,.inl ⟨rfl,_,aG.of hd⟩,D,_,_,rfl,rfl,hd,J7 _ _,?_⟩;show Ec _ _ _ _ (upd H2 D (.lst ((bs++[u1]).map V.ref++[V.ref u2]).dropLast));rw[dropLast_concat,map_append];have tk0:bQ H2 (upd H2 D (.lst (bs.map V.ref++[V.ref u1]))):=dX hd;refine⟨_,rfl,t,_,_,_,rfl,rfl,a9.of (tk0 _ _ ha2),rfl,rfl,_,rfl,cG (Wd (by rw[en];rfl)) ⟨_,rfl,.inl ⟨rfl,_,aG.of a8⟩,D,_,_,rfl,rfl,a8,J7 _ _,?_⟩⟩;have ed:(bs.map V.ref++[u1].map V.ref).dropLast=bs.map V.ref:=dropLast_concat;rw[ed];have eu:([u1].map V.ref)=[V.ref u1]:=rfl;rw[eu];have tk:bQ H2 (upd (upd H2 D (.lst (bs.map V.ref++[V.ref u1]))) D (.lst (bs.map V.ref))):=tk0.trans (dX a8);have k3:∀c o,H2 c=some o->c≠D->(upd (upd H2 D (.lst (bs.map V.ref++[V.ref u1]))) D (.lst (bs.map V.ref))) c=some o:=λc o e h=>by rw[aJ h,aJ h];exact e
    have N':gH C (upd (upd H2 D (.lst (bs.map V.ref++[V.ref u1]))) D (.lst (bs.map V.ref))) o la na ga Ti Li:=by
     obtain⟨⟨lZ,hp3⟩,⟨zG,zH,zJ⟩,zK,zL,_,zM⟩:=Ni;exact⟨⟨lZ,k3 _ _ hp3 zF.symm⟩,⟨zG,k3 _ _ zH wF.symm,zJ.mono tk⟩,k3 _ _ zK wG.symm,k3 _ _ zL wH.symm,qC,zM⟩
    have ha3:=tk _ _ ha2;have hc3:=Wa hcc (tk _ _ hc2);have gw:(upd (upd H2 D (.lst (bs.map V.ref++[V.ref u1]))) D (.lst (bs.map V.ref))) D=some (.lst (bs.map V.ref)):=a8;have zN:=hx1.mono tk;have zO:=hx2.mono tk;have hbs':=qF.mono tk (Pre.refl _) hbs;have wK:=hu1.mono tk (Pre.refl _);have Wi:=hu2.mono tk (Pre.refl _);have hp3:(upd (upd H2 D (.lst (bs.map V.ref++[V.ref u1]))) D (.lst (bs.map V.ref))) o=some (.ins C j5 (nf la na ga)):=k3 _ _ hp2 zF.symm
    generalize upd (upd H2 D (.lst (bs.map V.ref++[V.ref u1]))) D (.lst (bs.map V.ref))=o9 at tk N' ha3 hc3 gw k3 zN zO hbs' wK Wi hp3 ⊢
    refine⟨_,rfl,.inl ⟨rfl,_,aG.of gw⟩,_,rfl,o,j5,_,rfl,hp3,jc _ _ _ ⋯ ⋯ ⋯,_,rfl,t,_,_,.ref a,rfl,rfl,a9.of ha3,rfl,_,rfl,_,rfl,?_⟩;refine⟨o,a,u1,u2,la,na,ga,x1,x2,c,p1,p2,Ti,Li,rfl,N',by omega,hc3,zN,zO,wK,Wi,λu T3 L3 H3 N3 p3 z3 u3 b3=>?_⟩;obtain⟨f1,f2,Wf,Wg,Wh,st2,as2,Tj,Lj,f3⟩:=fin bs rs u T3 L3 o9 H3 k3 gw N' hbs' rfl N3 p3 (by omega) u3 b3 (by simp at J8;omega);exact⟨D,_,_,rfl,rfl,f1,f2,_,_,_,st2,as2,Tj,Lj,rfl,f3⟩
 ·rintro σ H2 ⟨v3,v4,v5,st,as,Ti,Li,rfl,hst,hd,hpa,Ni,hti,k2⟩
  rw[hml,take_length,o0] at hst
  cases hst;obtain⟨u,rfl,hu⟩:∃u,as=[u]/\nH H2 Ti u (zk8 p):=by
   cases hpa with
   |cons h t=>cases t;exact⟨_,rfl,h⟩
  have hwl:=wI p;rw[hml] at hti
  obtain⟨j5,hp2⟩:=Ni.ob;have hb:eU la na ga H H2:=λb o e h1 h2 h3=>k2 _ _ (s1 _ _ (s0 _ _ e)) (c6 e hD) h1 h2 h3
  have t2:bQ H H2:=N.tups hb;refine⟨_,rfl,o,j5,_,rfl,hp2,jc _ _ _ ⋯ ⋯ ⋯,_,rfl,_,rfl,D,_,_,.ref u,rfl,rfl,aG.of hd,rfl,?_⟩;refine⟨o,r,u,la,na,ga,p,Ti,Li,rfl,Ni,by omega,hP.mono t2,hu,λu T3 L3 H3 N3 p3 z3 ⟨i,j,e,g1,g2⟩ b3=>?_⟩;exact⟨u,_,_,.int (i:Nat),rfl,rfl,a9.of e,rfl,q i T3 L3 H3 N3 g1 (hb.trans b3)⟩
abbrev Run:=List Int×Nat×Nat
def SB:Nat:=1000000000000
def ov(w c n:Nat):Nat:=min n (c+n - w)
theorem Wj(w c n1 n2:Nat):ov w c n1+ov w (c+n1) n2=ov w c (n1+n2):=by unfold ov;omega
theorem Jb{w c' n':Nat}(h:c<=c')(h':n<=n'):ov w c n<=ov w c' n':=by unfold ov;omega
def zk9(A:List Run)(f:Nat->List Run):List Run:=A.flatMap λo=>(f o.2.1).map λq=>(o.1++q.1,q.2.1,o.2.2+q.2.2)
noncomputable def d9(w:Nat):Nd->Nat->Nat->List Run
 |.text n,c,_=>[([],c+n,SB*ov w c n)]
 |.brk,_,m=>[([],m,1+SB*ov w 0 m)]
 |.nest k a,c,m=>d9 w a c (m+k)
 |.align a,c,_=>d9 w a c c
 |.beside a b,c,m=>zk9 (d9 w a c m) λe=>d9 w b e m
 |.choice a b,c,m=>(d9 w a c m).map (λo=>(0::o.1,o.2))++(d9 w b c m).map (λo=>(1::o.1,o.2))
abbrev Sq:=List (Nd×Nat)
variable {r:Sq}
noncomputable def cY(w:Nat):Sq->Nat->List Run
 |[],c=>[([],c,0)]
 |x::r,c=>zk9 (d9 w x.1 c x.2) λe=>cY w r e
theorem pq{A:List Run}{f:Nat->List Run}{x:Run}:x∈zk9 A f↔∃o∈A,∃q∈f o.2.1,x=(o.1++q.1,q.2.1,o.2.2+q.2.2):=by
 unfold zk9;rw[mem_flatMap];constructor
 ·rintro⟨o,ho,h⟩
  obtain⟨q,hq,rfl⟩:=List.mem_map.mp h;exact⟨o,ho,q,hq,rfl⟩
 ·rintro⟨o,ho,q,hq,rfl⟩
  exact⟨o,ho,List.mem_map.mpr ⟨q,hq,rfl⟩⟩
theorem wL(s:List Int)(c k:Nat)(f:Nat->List Run):zk9 [(s,c,k)] f=(f c).map λq=>(s++q.1,q.2.1,k+q.2.2):=by
 unfold zk9;simp
theorem GV(c:Nat)(f:Nat->List Run):zk9 [([],c,0)] f=f c:=by
 rw[wL];simp
theorem zP(A B:List Run)(f:Nat->List Run):zk9 (A++B) f=zk9 A f++zk9 B f:=by unfold zk9;rw[flatMap_append]
theorem Ha(A:List Run):zk9 A (λe=>[([],e,0)])=A:=by
 induction A with
 |nil=>rfl
 |cons o A ih=>
  have:o::A=[o]++A:=rfl;rw[this,zP,ih];obtain⟨s,e,k⟩:=o;rw[wL];simp
theorem Jc(A:List Run)(f:Nat->List Run)(g:Run->Run)(hg:∀o q:Run,g (o.1++q.1,q.2.1,o.2.2+q.2.2)=((g o).1++q.1,q.2.1,(g o).2.2+q.2.2))(he:∀o,(g o).2.1=o.2.1):zk9 (A.map g) f=(zk9 A f).map g:=by
 unfold zk9;rw[List.flatMap_map,List.map_flatMap]
 congr 1
 funext o
 rw[map_map,he]
 congr 1
 funext q
 simp only[Function.comp];rw[hg]
theorem Wk(A:List Run)(f g:Nat->List Run):zk9 (zk9 A f) g=zk9 A (λe=>zk9 (f e) g):=by
 induction A with
 |nil=>rfl
 |cons o A ih=>
  have e:o::A=[o]++A:=rfl;rw[e,zP,zP,zP,ih]
  congr 1
  obtain⟨s,c,k⟩:=o;rw[wL,wL];rw[Jc (f c) g (λq=>(s++q.1,q.2.1,k+q.2.2)) (λo q=>by simp[append_assoc,add_assoc]) (λo=>rfl)]
theorem Jd(w:Nat):∀(p q:Sq) (c:Nat),cY w (p++q) c=zk9 (cY w p c) (cY w q)
 |[],q,c=>by show cY w q c=zk9 [([],c,0)] _;rw[GV]
 |x::p,q,c=>by
  show zk9 _ (λe=>cY w (p++q) e)=zk9 (zk9 _ _) _;rw[Wk]
  congr 1
  funext e
  exact Jd w p q e
theorem jQ(w:Nat)(a:Nd)(m c:Nat):cY w [(a,m)] c=d9 w a c m:=Ha _
theorem Wm(w:Nat)(a b:Nd)(m:Nat)(r:Sq)(c:Nat):cY w ((.beside a b,m)::r) c=cY w ((a,m)::(b,m)::r) c:=by
 show zk9 (zk9 _ _) _=zk9 _ (λe=>zk9 _ _);rw[Wk]
theorem wM(w:Nat)(a b:Nd)(m:Nat)(r:Sq)(c:Nat):cY w ((.choice a b,m)::r) c=(cY w ((a,m)::r) c).map (λo=>(0::o.1,o.2))++(cY w ((b,m)::r) c).map (λo=>(1::o.1,o.2)):=by
 show zk9 (_++_) _=_;rw[zP,Jc _ _ (λo=>((0:Int)::o.1,o.2)) (λo q=>rfl) (λo=>rfl),Jc _ _ (λo=>((1:Int)::o.1,o.2)) (λo q=>rfl) (λo=>rfl)];rfl
theorem Hb(w n m:Nat)(r:Sq)(c:Nat):cY w ((.text n,m)::r) c=(cY w r (c+n)).map λq=>(q.1,q.2.1,SB*ov w c n+q.2.2):=by
 show zk9 [([],c+n,SB*ov w c n)] _=_;rw[wL];rfl
theorem Hc(w m:Nat)(r:Sq)(c:Nat):cY w ((.brk,m)::r) c=(cY w r m).map λq=>(q.1,q.2.1,1+SB*ov w 0 m+q.2.2):=by
 show zk9 [([],m,1+SB*ov w 0 m)] _=_;rw[wL];rfl
theorem uQ(w:Nat):∀(a:Nd) {c c' m m':Nat},c<=c'->m<=m'->∀o∈d9 w a c' m',∃o2∈d9 w a c m,o2.2.1<=o.2.1/\o2.2.2<=o.2.2
 |.text n,c,c',m,m',hc,hm,o,ho=>by
  rw[List.mem_singleton.mp ho];exact⟨_,List.mem_singleton.mpr rfl,add_le_add_right hc n,mul_le_mul_left _ (Jb hc (le_refl _))⟩
 |.brk,c,c',m,m',hc,hm,o,ho=>by
  rw[List.mem_singleton.mp ho];exact⟨_,List.mem_singleton.mpr rfl,hm,add_le_add_left (mul_le_mul_left _ (Jb (le_refl _) hm)) 1⟩
 |.nest k a,c,c',m,m',hc,hm,o,ho=>uQ w a hc (add_le_add_right hm k) o ho
 |.align a,c,c',m,m',hc,hm,o,ho=>uQ w a hc hc o ho
 |.beside a b,c,c',m,m',hc,hm,o,ho=>by
  obtain⟨x,hx,y,hy,rfl⟩:=pq.mp ho;obtain⟨x2,hx2,e1,e2⟩:=uQ w a hc hm x hx;obtain⟨y2,hy2,e3,e4⟩:=uQ w b e1 hm y hy;exact⟨_,pq.mpr ⟨x2,hx2,y2,hy2,rfl⟩,e3,Nat.add_le_add e2 e4⟩
 |.choice a b,c,c',m,m',hc,hm,o,ho=>by
  rcases List.mem_append.mp ho with h|h
  ·obtain⟨x,hx,rfl⟩:=List.mem_map.mp h
   obtain⟨x2,hx2,e1,e2⟩:=uQ w a hc hm x hx;exact⟨_,mem_append_left _ (List.mem_map.mpr ⟨x2,hx2,rfl⟩),e1,e2⟩
  ·obtain⟨x,hx,rfl⟩:=List.mem_map.mp h
   obtain⟨x2,hx2,e1,e2⟩:=uQ w b hc hm x hx;exact⟨_,mem_append_right _ (List.mem_map.mpr ⟨x2,hx2,rfl⟩),e1,e2⟩
theorem qG(w:Nat):∀(a:Nd) {l:Nat} (c m:Nat),zk4 a=some l->(∀o∈d9 w a c m,∃n,l<=n/\o.2.1=c+n/\o.2.2=SB*ov w c n)/\∃s,(s,c+l,SB*ov w c l)∈d9 w a c m
 |.text n,l,c,m,h=>by
  have h:some n=some l:=h;cases h;exact⟨λo ho=>⟨n,le_refl _,by rw[List.mem_singleton.mp ho],by rw[List.mem_singleton.mp ho]⟩,[],List.mem_singleton.mpr rfl⟩
 |.brk,l,c,m,h=>by cases h
 |.nest _ _,l,c,m,h=>by cases h
 |.align _,l,c,m,h=>by cases h
 |.beside a b,l,c,m,h=>by
  have h:fV (· + ·) (zk4 a) (zk4 b)=some l:=h;cases ha:zk4 a with
  |none=>rw[ha] at h;cases h
  |some la=>
   cases hb:zk4 b with
   |none=>rw[ha,hb] at h;cases h
   |some lb=>
    rw[ha,hb] at h
    have h:some (la+lb)=some l:=h;cases h;constructor
    ·intro o ho
     obtain⟨x,hx,y,hy,rfl⟩:=pq.mp ho;obtain⟨n1,h1,h2,h3⟩:=(qG w a c m ha).1 x hx;obtain⟨n2,h4,h5,h6⟩:=(qG w b x.2.1 m hb).1 y hy;refine⟨n1+n2,by omega,?_,?_⟩
     ·show y.2.1=_;rw[h5,h2];omega
     ·show x.2.2+y.2.2=_;rw[h3,h6,h2,<-mul_add,Wj]
    ·obtain⟨s1,q1⟩:=(qG w a c m ha).2
     obtain⟨s2,q2⟩:=(qG w b (c+la) m hb).2;refine⟨s1++s2,pq.mpr ⟨_,q1,_,q2,?_⟩⟩;show(_,_,_)=(_,_,_);rw[<-Wj,mul_add,add_assoc]
 |.choice a b,l,c,m,h=>by
  have h:fV min (zk4 a) (zk4 b)=some l:=h;cases ha:zk4 a with
  |none=>rw[ha] at h;cases h
  |some la=>
   cases hb:zk4 b with
   |none=>rw[ha,hb] at h;cases h
   |some lb=>
    rw[ha,hb] at h
    have h:some (min la lb)=some l:=h;have h:=Option.some.inj h;constructor
    ·intro o ho
     rcases List.mem_append.mp ho with q|q
     ·obtain⟨x,hx,rfl⟩:=List.mem_map.mp q
      obtain⟨n1,h1,h2,h3⟩:=(qG w a c m ha).1 x hx;exact⟨n1,by omega,h2,h3⟩
     ·obtain⟨x,hx,rfl⟩:=List.mem_map.mp q
      obtain⟨n1,h1,h2,h3⟩:=(qG w b c m hb).1 x hx;exact⟨n1,by omega,h2,h3⟩
    ·by_cases hl:la<=lb
     ·have e:l=la:=by omega
      obtain⟨s1,q1⟩:=(qG w a c m ha).2;rw[e];exact⟨0::s1,mem_append_left _ (List.mem_map.mpr ⟨_,q1,rfl⟩)⟩
     ·have e:l=lb:=by omega
      obtain⟨s1,q1⟩:=(qG w b c m hb).2;rw[e];exact⟨1::s1,mem_append_right _ (List.mem_map.mpr ⟨_,q1,rfl⟩)⟩
noncomputable def aV:Nd->List Nat×List Nat
 |.text n=>([],[n])
 |.brk=>([0],[])
 |.nest k a=>((aV a).1.map (k + ·),(aV a).2)
 |.align a=>([],(aV a).1++(aV a).2)
 |.beside a b=>match fV (· + ·) (zk4 a) (zk4 b) with
  |some l=>([],[l])
  |none=>((aV b).1++(aV a).1.flatMap (λx=>(aV b).2.map (x + ·)),(aV a).2.flatMap λx=>(aV b).2.map (x + ·))
 |.choice a b=>match fV min (zk4 a) (zk4 b) with
  |some l=>([],[l])
  |none=>((aV a).1++(aV b).1,(aV a).2++(aV b).2)
theorem pA:∀(a:Nd) {l:Nat},zk4 a=some l->aV a=([],[l])
 |.text n,l,h=>by have h:some n=some l:=h;cases h;rfl
 |.brk,l,h=>by cases h
 |.nest _ _,l,h=>by cases h
 |.align _,l,h=>by cases h
 |.beside a b,l,h=>by
  have h:fV (· + ·) (zk4 a) (zk4 b)=some l:=h;unfold aV;rw[h]
 |.choice a b,l,h=>by
  have h:fV min (zk4 a) (zk4 b)=some l:=h;unfold aV;rw[h]
def j6(L:List Nat)(x:Nd×Nat):List Nat:=(aV x.1).1.map (x.2 + ·)++L.flatMap λe=>(aV x.1).2.map (e + ·)
def esl(L:List Nat)(q:Sq):List Nat:=q.foldl j6 L
def cnt(n:Nat):Sq->Nat
 |[]=>n
 |x::q=>cnt ((aV x.1).1.length+(aV x.1).2.length*n) q
theorem Wn(L:List Nat)(x:Nd×Nat):(j6 L x).length=(aV x.1).1.length+(aV x.1).2.length*L.length:=by
 unfold j6;rw[length_append,length_map,lM _ (aV x.1).2.length L (λ_ _=>by rw[length_map]),mul_comm]
theorem Wo:∀(q:Sq) (L:List Nat),(esl L q).length=cnt L.length q
 |[],L=>rfl
 |x::q,L=>by
  show(esl (j6 L x) q).length=_;rw[Wo q,Wn];rfl
theorem Hd(L:List Nat)(q:Sq)(x:Nd×Nat):esl L (q++[x])=j6 (esl L q) x:=by unfold esl;rw[foldl_append];rfl
theorem ji{L:List Nat}{x:Nd×Nat} : y∈j6 L x↔(∃e∈(aV x.1).1,y=x.2+e)\/∃e∈L,∃d∈(aV x.1).2,y=e+d:=by
 unfold j6;rw[mem_append,mem_map,mem_flatMap];constructor
 ·rintro(⟨e,h,rfl⟩|⟨e,h,h2⟩)
  ·exact .inl ⟨e,h,rfl⟩
  ·obtain⟨d,hd,rfl⟩:=List.mem_map.mp h2
   exact .inr ⟨e,h,d,hd,rfl⟩
 ·rintro(⟨e,h,rfl⟩|⟨e,h,d,hd,rfl⟩)
  ·exact .inl ⟨e,h,rfl⟩
  ·exact .inr ⟨e,h,List.mem_map.mpr ⟨d,hd,rfl⟩⟩
theorem He   {L:List Nat} (h:y∈j6 L (a,m+k)):y∈j6 L (.nest k a,m):=by
 rcases ji.mp h with⟨e,he,rfl⟩|⟨e,he,d,hd,rfl⟩
 ·exact ji.mpr (.inl ⟨k+e,List.mem_map.mpr ⟨e,he,rfl⟩,by show m+k+e=m+(k+e);omega⟩)
 ·exact ji.mpr (.inr ⟨e,he,d,hd,rfl⟩)
theorem Hk   (h:y∈j6 [c] (a,c)):y∈j6 [c] (.align a,m):=by
 rcases ji.mp h with⟨e,he,rfl⟩|⟨e,he,d,hd,rfl⟩
 ·exact ji.mpr (.inr ⟨c,List.mem_singleton.mpr rfl,e,mem_append_left _ he,rfl⟩)
 ·exact ji.mpr (.inr ⟨e,he,d,mem_append_right _ hd,rfl⟩)
theorem Hm  {L:List Nat} (hn:zk4 (.beside a b)=none)(h:y∈j6 (j6 L (a,m)) (b,m)):y∈j6 L (.beside a b,m):=by
 have e0:aV (.beside a b)=((aV b).1++(aV a).1.flatMap (λx=>(aV b).2.map (x + ·)),(aV a).2.flatMap λx=>(aV b).2.map (x + ·)):=by
  have hn:fV (· + ·) (zk4 a) (zk4 b)=none:=hn
  conv=>lhs;unfold aV
  rw[hn]
 rcases ji.mp h with⟨e,he,rfl⟩|⟨e,he,d,hd,rfl⟩
 ·refine ji.mpr (.inl ⟨e,?_,rfl⟩)
  show e∈(aV (.beside a b)).1;rw[e0];exact mem_append_left _ he
 ·rcases ji.mp he with⟨f,hf,rfl⟩|⟨f,hf,g,hg,rfl⟩
  ·refine ji.mpr (.inl ⟨f+d,?_,by show m+f+d=m+(f+d);omega⟩)
   show f+d∈(aV (.beside a b)).1;rw[e0];exact mem_append_right _ (List.mem_flatMap.mpr ⟨f,hf,List.mem_map.mpr ⟨d,hd,rfl⟩⟩)
  ·refine ji.mpr (.inr ⟨f,hf,g+d,?_,by omega⟩)
   show g+d∈(aV (.beside a b)).2;rw[e0];exact List.mem_flatMap.mpr ⟨g,hg,List.mem_map.mpr ⟨d,hd,rfl⟩⟩
theorem Wq  {L:List Nat} (hn:zk4 (.choice a b)=none)(h:y∈j6 L (a,m)\/y∈j6 L (b,m)):y∈j6 L (.choice a b,m):=by
 have e0:aV (.choice a b)=((aV a).1++(aV b).1,(aV a).2++(aV b).2):=by
  have hn:fV min (zk4 a) (zk4 b)=none:=hn
  conv=>lhs;unfold aV
  rw[hn]
 rw[ji];show(∃e∈(aV (.choice a b)).1,_)\/∃e∈L,∃d∈(aV (.choice a b)).2,_;rw[e0];rcases h with h|h<;>rcases ji.mp h with⟨e,he,rfl⟩|⟨e,he,d,hd,rfl⟩
 ·exact .inl ⟨e,mem_append_left _ he,rfl⟩
 ·exact .inr ⟨e,he,d,mem_append_left _ hd,rfl⟩
 ·exact .inl ⟨e,mem_append_right _ he,rfl⟩
 ·exact .inr ⟨e,he,d,mem_append_right _ hd,rfl⟩
abbrev Es:=List (Nat×Nat)
variable {E:Es}
structure dI(w:Nat)(q:Sq)(c:Nat)(E:Es):Prop where
 nodup:(E.map (·.1)).Nodup
 sound:∀x∈E,∃s,(s,x.1,x.2)∈cY w q c
 qH:∀o∈cY w q c,∃x∈E,x.1<=o.2.1/\x.2<=o.2.2
 ends:∀x∈E,x.1∈esl [c] q
structure Cg(D E:Es):Prop where
 nodup:(E.map (·.1)).Nodup
 sub:∀x∈E,x∈D
 dom:∀x∈D,∃y∈E,y.1<=x.1/\y.2<=x.2
theorem dI.zero(w c:Nat):dI w [] c [(c,0)]:=
 ⟨by simp,λx hx=>⟨[],by rw[List.mem_singleton.mp hx];exact List.mem_singleton.mpr rfl⟩,λo ho=>⟨_,List.mem_singleton.mpr rfl,by rw[List.mem_singleton.mp ho];exact⟨le_refl _,le_refl _⟩⟩,λx hx=>by rw[List.mem_singleton.mp hx];exact List.mem_singleton.mpr rfl⟩
theorem dI.flat{w:Nat} {l:Nat}(c m:Nat)(h:zk4 a=some l):dI w [(a,m)] c [(c+l,SB*ov w c l)]:=by
 obtain⟨h1,s,h2⟩:=qG w a c m h;refine⟨by simp,λx hx=>⟨s,by rw[List.mem_singleton.mp hx,jQ];exact h2⟩,λo ho=>?_,λx hx=>?_⟩
 ·rw[jQ] at ho
  obtain⟨n,e1,e2,e3⟩:=h1 o ho;refine⟨_,List.mem_singleton.mpr rfl,by rw[e2];exact add_le_add_left e1 c,by rw[e3];exact mul_le_mul_left _ (Jb (le_refl _) e1)⟩
 ·rw[List.mem_singleton.mp hx]
  show c+l∈j6 [c] (a,m);exact ji.mpr (.inr ⟨c,List.mem_singleton.mpr rfl,l,by show l∈(aV a).2;rw[pA a h];exact List.mem_singleton.mpr rfl,rfl⟩)
theorem dI.brk(w c m:Nat):dI w [(.brk,m)] c [(m,1+SB*ov w 0 m)]:=by
 refine⟨by simp,λx hx=>⟨[],by rw[List.mem_singleton.mp hx,jQ];exact List.mem_singleton.mpr rfl⟩,λo ho=>?_,λx hx=>?_⟩
 ·rw[jQ] at ho
  rw[List.mem_singleton.mp ho];exact⟨_,List.mem_singleton.mpr rfl,le_refl _,le_refl _⟩
 ·rw[List.mem_singleton.mp hx]
  exact ji.mpr (.inl ⟨0,List.mem_singleton.mpr rfl,rfl⟩)
theorem dI.nest{w k:Nat}{a:Nd}{c m:Nat}{E:Es}(h:dI w [(a,m+k)] c E):dI w [(.nest k a,m)] c E:=by
 obtain⟨h1,h2,h3,h4⟩:=h;rw[jQ] at h2 h3
 exact⟨h1,by rw[jQ];exact h2,by rw[jQ];exact h3,λx hx=>He (h4 x hx)⟩
theorem dI.align{w:Nat}{a:Nd}{c m:Nat}{E:Es}(h:dI w [(a,c)] c E):dI w [(.align a,m)] c E:=by
 obtain⟨h1,h2,h3,h4⟩:=h;rw[jQ] at h2 h3
 exact⟨h1,by rw[jQ];exact h2,by rw[jQ];exact h3,λx hx=>Hk (h4 x hx)⟩
theorem dI.beside{w:Nat}{a b:Nd}{c m:Nat}{E:Es}(hn:zk4 (.beside a b)=none)(h:dI w ([(a,m)]++[(b,m)]) c E):dI w [(.beside a b,m)] c E:=by
 obtain⟨h1,h2,h3,h4⟩:=h;have e:cY w [(.beside a b,m)] c=cY w ([(a,m)]++[(b,m)]) c:=Wm w a b m [] c;exact⟨h1,by rw[e];exact h2,by rw[e];exact h3,λx hx=>Hm hn (h4 x hx)⟩
theorem dI.choice{w:Nat}{a b:Nd}{c m:Nat}{E1 E2 D E:Es}(hn:zk4 (.choice a b)=none)(h1:dI w [(a,m)] c E1)(h2:dI w [(b,m)] c E2)
  (hs:∀x∈D,x∈E1\/x∈E2) (hc:∀x,x∈E1\/x∈E2->∃y∈D,y.1=x.1/\y.2<=x.2) (u:Cg D E):dI w [(.choice a b,m)] c E:=by
 have e0:=wM w a b m [] c;refine⟨u.nodup,λx hx=>?_,λo ho=>?_,λx hx=>?_⟩
 ·rcases hs x (u.sub x hx) with h|h
  ·obtain⟨s,q⟩:=h1.sound x h
   exact⟨0::s,by rw[e0];exact mem_append_left _ (List.mem_map.mpr ⟨_,q,rfl⟩)⟩
  ·obtain⟨s,q⟩:=h2.sound x h
   exact⟨1::s,by rw[e0];exact mem_append_right _ (List.mem_map.mpr ⟨_,q,rfl⟩)⟩
 ·have key:∀z,z∈E1\/z∈E2->z.1<=o.2.1->z.2<=o.2.2->∃x∈E,x.1<=o.2.1/\x.2<=o.2.2:=λz hz l1 l2=>by
   obtain⟨y,hy,k1,k2⟩:=hc z hz;obtain⟨v,hv,k3,k4⟩:=u.dom y hy;exact⟨v,hv,by omega,by omega⟩
  rw[e0] at ho
  rcases List.mem_append.mp ho with h|h
  ·obtain⟨o2,ho2,rfl⟩:=List.mem_map.mp h
   obtain⟨z,hz,k1,k2⟩:=h1.qH o2 ho2;exact key z (.inl hz) k1 k2
  ·obtain⟨o2,ho2,rfl⟩:=List.mem_map.mp h
   obtain⟨z,hz,k1,k2⟩:=h2.qH o2 ho2;exact key z (.inr hz) k1 k2
 ·refine Wq hn ?_
  rcases hs x (u.sub x hx) with h|h
  ·exact .inl (h1.ends x h)
  ·exact .inr (h2.ends x h)
theorem wN(w:Nat):∀(a:Nd) (c m:Nat),d9 w a c m≠[]
 |.text _,_,_=>by simp[d9]
 |.brk,_,_=>by simp[d9]
 |.nest k a,c,m=>wN w a c (m+k)
 |.align a,c,m=>wN w a c c
 |.beside a b,c,m=>λh=>by
  obtain⟨o,ho⟩:=exists_mem_of_ne_nil _ (wN w a c m);obtain⟨q,hq⟩:=exists_mem_of_ne_nil _ (wN w b o.2.1 m);have:(o.1++q.1,q.2.1,o.2.2+q.2.2)∈d9 w (.beside a b) c m:=pq.mpr ⟨o,ho,q,hq,rfl⟩;rw[h] at this;cases this
 |.choice a b,c,m=>λh=>wN w a c m (List.map_eq_nil_iff.mp (List.append_eq_nil_iff.mp h).1)
theorem Wr(w:Nat):∀(q:Sq) (c:Nat),cY w q c≠[]
 |[],_=>by simp[cY]
 |x::r,c=>λh=>by
  obtain⟨o,ho⟩:=exists_mem_of_ne_nil _ (wN w x.1 c x.2);obtain⟨q,hq⟩:=exists_mem_of_ne_nil _ (Wr w r o.2.1);have:(o.1++q.1,q.2.1,o.2.2+q.2.2)∈cY w (x::r) c:=pq.mpr ⟨o,ho,q,hq,rfl⟩;rw[h] at this;cases this
def Least(R:List Run)(k:Nat):Prop:=(∃o∈R,o.2.2=k)/\∀o∈R,k<=o.2.2
theorem dI.least{w:Nat}{q:Sq}  (h:dI w q c E) (h1:∃x∈E,x.2=k)(h2:∀x∈E,k<=x.2):Least (cY w q c) k:=by
 obtain⟨x,hx,rfl⟩:=h1;obtain⟨s,hs⟩:=h.sound x hx;exact⟨⟨_,hs,rfl⟩,λo ho=>by obtain⟨y,hy,_,e⟩:=h.qH o ho;exact le_trans (h2 y hy) e⟩
def Best(R:List Run)(s:List Int)(k:Nat):Prop:=∃pre e post,R=pre++(s,e,k)::post/\(∀o∈pre,k<o.2.2)/\∀o∈post,k<=o.2.2
theorem Best.shift{R:List Run}  (h:Best R s k):Best (R.map λq=>(q.1,q.2.1,d+q.2.2)) s (d+k):=by
 obtain⟨pre,e,post,rfl,h1,h2⟩:=h;refine⟨pre.map _,e,post.map _,by rw[map_append,map_cons],λo ho=>?_,λo ho=>?_⟩
 ·obtain⟨x,hx,rfl⟩:=List.mem_map.mp ho
  exact Nat.add_lt_add_left (h1 x hx) d
 ·obtain⟨x,hx,rfl⟩:=List.mem_map.mp ho
  exact add_le_add_left (h2 x hx) d
theorem Least.shift{R:List Run} (h:Least (R.map λq=>(q.1,q.2.1,d+q.2.2)) k):∃k',k=d+k'/\Least R k':=by
 obtain⟨⟨o,ho,e⟩,h2⟩:=h;obtain⟨x,hx,rfl⟩:=List.mem_map.mp ho;refine⟨x.2.2,e.symm,⟨x,hx,rfl⟩,λy hy=>?_⟩;have:=h2 _ (List.mem_map.mpr ⟨y,hy,rfl⟩);have e:d+x.2.2=k:=e;have this:k<=d+y.2.2:=this
 omega
theorem Best.left{A B:List Run}  {x y:Int}(h:Best A s k)(hb:∀o∈B,k<=o.2.2):Best (A.map (λo=>(x::o.1,o.2))++B.map (λo=>(y::o.1,o.2))) (x::s) k:=by
 obtain⟨pre,e,post,rfl,h1,h2⟩:=h;refine⟨pre.map _,e,post.map _++B.map _,by rw[map_append,map_cons,append_assoc];rfl,λo ho=>?_,λo ho=>?_⟩
 ·obtain⟨z,hz,rfl⟩:=List.mem_map.mp ho
  exact h1 z hz
 ·rcases List.mem_append.mp ho with q|q
  ·obtain⟨z,hz,rfl⟩:=List.mem_map.mp q
   exact h2 z hz
  ·obtain⟨z,hz,rfl⟩:=List.mem_map.mp q
   exact hb z hz
theorem Best.right{A B:List Run}  {x y:Int}(h:Best B s k)(ha:∀o∈A,k<o.2.2):Best (A.map (λo=>(x::o.1,o.2))++B.map (λo=>(y::o.1,o.2))) (y::s) k:=by
 obtain⟨pre,e,post,rfl,h1,h2⟩:=h;refine⟨A.map _++pre.map _,e,post.map _,by rw[map_append,map_cons,append_assoc],λo ho=>?_,λo ho=>?_⟩
 ·rcases List.mem_append.mp ho with q|q
  ·obtain⟨z,hz,rfl⟩:=List.mem_map.mp q
   exact ha z hz
  ·obtain⟨z,hz,rfl⟩:=List.mem_map.mp q
   exact h1 z hz
 ·obtain⟨z,hz,rfl⟩:=List.mem_map.mp ho
  exact h2 z hz
def cL(E:Es):List (Key×V):=E.map λx=>(.inl ((x.1:Nat):Int),.int ((x.2:Nat):Int))
def kh(E:Es)(c:Nat):Option Nat:=(E.find? λx=>decide (x.1=c)).map (·.2)
noncomputable def kI(E:Es)(c k:Nat):Es:=if(E.any λx=>decide (x.1=c))=true then E.map (λx=>if x.1=c then(x.1,k) else x) else E++[(c,k)]
theorem zm8(a b:Nat):decide ((Sum.inl ((a:Nat):Int):Key)=Sum.inl ((b:Nat):Int))=decide (a=b):=by
 by_cases h:a=b
 ·rw[h,decide_eq_true rfl,decide_eq_true rfl]
 ·rw[decide_eq_false h,decide_eq_false (λe=>h (by have:=Sum.inl.inj e;omega))]
theorem zQ(E:Es)(c:Nat):gO (cL E) (.inl ((c:Nat):Int))=(kh E c).map λk=>V.int ((k:Nat):Int):=by
 induction E with
 |nil=>rfl
 |cons x E ih=>
  unfold gO kh cL at*
  rw[map_cons,find?_cons,find?_cons];simp only[zm8];cases decide (x.1=c) with
  |true=>rfl
  |false=>exact ih
theorem Ws(E:Es)(c k:Nat):zl8 (cL E) (.inl ((c:Nat):Int)) (.int ((k:Nat):Int))=cL (kI E c k):=by
 have ha:((cL E).any λkv=>decide (kv.1=(.inl ((c:Nat):Int):Key)))=E.any λx=>decide (x.1=c):=by
  unfold cL;rw[List.any_map]
  congr 1
  funext x
  exact zm8 x.1 c
 unfold zl8 kI;rw[ha]
 split
 ·unfold cL
  rw[map_map,map_map]
  congr 1
  funext x
  simp only[Function.comp]
  by_cases h:x.1=c
  ·rw[if_pos h,if_pos (by rw[h])]
  ·rw[if_neg h,if_neg (λe=>h (by have:=Sum.inl.inj e;omega))]
 ·unfold cL
  rw[map_append];rfl
theorem zR(E:Es):(cL E).length=E.length:=by unfold cL;rw[length_map]
theorem Je  {kv:Key×V}(h:(cL E)[i]? = some kv):∃c k:Nat,E[i]? = some (c,k)/\kv=(.inl ((c:Nat):Int),.int ((k:Nat):Int)):=by
 unfold cL at h
 rw[getElem?_map] at h
 cases e:E[i]? with
 |none=>rw[e] at h;cases h
 |some x=>rw[e] at h;cases h;exact⟨x.1,x.2,rfl,rfl⟩
theorem Jf  (h:kh E c=some k):(c,k)∈E:=by
 unfold kh at h
 cases e:E.find? λx=>decide (x.1=c) with
 |none=>rw[e] at h;cases h
 |some x=>
  rw[e] at h
  have h1:=List.mem_of_find?_eq_some e;have h2:=List.find?_some e;have h3:x.1=c:=of_decide_eq_true h2;have h4:x.2=k:=Option.some.inj h;rw[<-h3,<-h4];exact h1
theorem Wt  (h:kh E c=none):∀x∈E,x.1≠c:=λx hx e=>by
 unfold kh at h
 have h':E.find? (λx=>decide (x.1=c))=none:=by
  cases z:E.find? λx=>decide (x.1=c) with
  |none=>rfl
  |some y=>rw[z] at h;cases h
 rw[List.find?_eq_none] at h'
 exact h' x hx (decide_eq_true e)
theorem zl1 (hn:(E.map (·.1)).Nodup){x y:Nat×Nat}(hx:x∈E)(hy:y∈E)(h:x.1=y.1):x=y:=by
 induction E with
 |nil=>cases hx
 |cons z E ih=>
  rw[map_cons,nodup_cons] at hn
  rcases List.mem_cons.mp hx with e1|hx'
  ·rcases List.mem_cons.mp hy with e2|hy'
   ·rw[e1,e2]
   ·exact absurd (show z.1∈E.map (·.1) from List.mem_map.mpr ⟨y,hy',by rw[<-h,e1]⟩) hn.1
  ·rcases List.mem_cons.mp hy with e2|hy'
   ·exact absurd (show z.1∈E.map (·.1) from List.mem_map.mpr ⟨x,hx',by rw[h,e2]⟩) hn.1
   ·exact ih hn.2 hx' hy'
theorem Jg (hn:(E.map (·.1)).Nodup) (h:(c,k)∈E):kh E c=some k:=by
 cases e:kh E c with
 |none=>exact absurd rfl (Wt e _ h)
 |some j=>have:=zl1 hn h (Jf e) rfl;cases this;rfl
theorem Jh(E:Es)(c:Nat):(E.any λx=>decide (x.1=c))=true↔∃x∈E,x.1=c:=by
 rw[List.any_eq_true];constructor
 ·rintro⟨x,h,e⟩;exact⟨x,h,of_decide_eq_true e⟩
 ·rintro⟨x,h,e⟩;exact⟨x,h,decide_eq_true e⟩
theorem qI  {x:Nat×Nat}:x∈kI E c k↔x=(c,k)\/(x∈E/\x.1≠c):=by
 unfold kI
 split
 ·rename_i h
  obtain⟨y,hy,e⟩:=(Jh E c).mp h;rw[mem_map];constructor
  ·rintro⟨z,hz,rfl⟩
   by_cases Ci:z.1=c
   ·rw[if_pos Ci];exact .inl (by rw[Ci])
   ·rw[if_neg Ci];exact .inr ⟨hz,Ci⟩
  ·rintro(rfl|⟨h1,h2⟩)
   ·exact⟨y,hy,by rw[if_pos e,e]⟩
   ·exact⟨x,h1,by rw[if_neg h2]⟩
 ·rename_i h
  have h':∀x∈E,x.1≠c:=λx hx e=>h ((Jh E c).mpr ⟨x,hx,e⟩)
  rw[mem_append,List.mem_singleton];constructor
  ·rintro(h1|h1)
   ·exact .inr ⟨h1,h' x h1⟩
   ·exact .inl h1
  ·rintro(h1|⟨h1,_⟩)
   ·exact .inr h1
   ·exact .inl h1
theorem Wu (hn:(E.map (·.1)).Nodup)(c k:Nat):((kI E c k).map (·.1)).Nodup:=by
 unfold kI
 split
 ·have e:(E.map λx=>if x.1=c then(x.1,k) else x).map (·.1)=E.map (·.1):=by
   rw[map_map]
   congr 1
   funext x
   simp only[Function.comp]
   split<;>rfl
  rw[e];exact hn
 ·rename_i h
  rw[map_append,List.nodup_append];refine⟨hn,by simp,λa ha b hb e=>?_⟩;obtain⟨x,hx,rfl⟩:=List.mem_map.mp ha;have hb':b=c:=by simpa using hb
  exact h ((Jh E c).mpr ⟨x,hx,by rw[e,hb']⟩)
theorem Wv(E:Es)(c k:Nat):(kI E c k).length<=E.length+1:=by
 unfold kI
 split
 ·rw[length_map];omega
 ·rw[length_append];exact le_refl _
structure Added(E M:Es)(sp:Nat)(D:Es):Prop where
 nodup:(D.map (·.1)).Nodup
 sound:∀x∈D,x∈E\/∃y∈M,x=(y.1,sp+y.2)
 old:∀x∈E,∃y∈D,y.1=x.1/\y.2<=x.2
 new:∀x∈M,∃y∈D,y.1=x.1/\y.2<=sp+x.2
 len:D.length<=E.length+M.length
theorem Added.start (hn:(E.map (·.1)).Nodup)(sp:Nat):Added E [] sp E:=
 ⟨hn,λx hx=>.inl hx,λx hx=>⟨x,hx,rfl,le_refl _⟩,λx hx=>(by cases hx),le_refl _⟩
theorem Added.put{M D:Es}{sp:Nat}(A:Added E M sp D)(h:kh D c=none\/∃j,kh D c=some j/\sp+k<j):Added E (M++[(c,k)]) sp (kI D c (sp+k)):=by
 have low:∀y∈D,y.1=c->sp+k<=y.2:=λy hy e=>by
  rcases h with h|⟨j,h1,h2⟩
  ·exact absurd e (Wt h y hy)
  ·have:=zl1 A.nodup hy (Jf h1) e
   rw[this];exact le_of_lt h2
 have key:∀y∈D,∃z∈kI D c (sp+k),z.1=y.1/\z.2<=y.2:=λy hy=>by
  by_cases e:y.1=c
  ·exact⟨(c,sp+k),qI.mpr (.inl rfl),e.symm,low y hy e⟩
  ·exact⟨y,qI.mpr (.inr ⟨hy,e⟩),rfl,le_refl _⟩
 refine⟨Wu A.nodup _ _,λx hx=>?_,λx hx=>?_,λx hx=>?_,?_⟩
 ·rcases qI.mp hx with rfl|⟨h1,_⟩
  ·exact .inr ⟨(c,k),by simp,rfl⟩
  ·rcases A.sound x h1 with z|⟨y,hy,e⟩
   ·exact .inl z
   ·exact .inr ⟨y,mem_append_left _ hy,e⟩
 ·obtain⟨y,hy,e1,e2⟩:=A.old x hx
  obtain⟨z,hz,e3,e4⟩:=key y hy;exact⟨z,hz,e3.trans e1,le_trans e4 e2⟩
 ·rcases List.mem_append.mp hx with h1|h1
  ·obtain⟨y,hy,e1,e2⟩:=A.new x h1
   obtain⟨z,hz,e3,e4⟩:=key y hy;exact⟨z,hz,e3.trans e1,le_trans e4 e2⟩
  ·rw[List.mem_singleton.mp h1]
   exact⟨(c,sp+k),qI.mpr (.inl rfl),rfl,le_refl _⟩
 ·have:=Wv D c (sp+k)
  have:=A.len;rw[length_append,length_singleton];omega
theorem Added.keep{M D:Es}{sp j:Nat}(A:Added E M sp D)(h1:kh D c=some j)(h2:j<=sp+k):Added E (M++[(c,k)]) sp D:=by
 refine⟨A.nodup,λx hx=>?_,A.old,λx hx=>?_,?_⟩
 ·rcases A.sound x hx with z|⟨y,hy,e⟩
  ·exact .inl z
  ·exact .inr ⟨y,mem_append_left _ hy,e⟩
 ·rcases List.mem_append.mp hx with z|z
  ·exact A.new x z
  ·rw[List.mem_singleton.mp z]
   exact⟨_,Jf h1,rfl,h2⟩
 ·have:=A.len
  rw[length_append,length_singleton];omega
structure m9(D:Es)(ks:List Nat)(i:Nat)(l:Option Nat)(E:Es):Prop where
 nodup:(E.map (·.1)).Nodup
 sub:∀x∈E,x∈D
 dom:∀(j c k:Nat),j<i->ks[j]? = some c->(c,k)∈D->∃y∈E,y.1<=c/\y.2<=k
 non:l=none->i=0
 least:∀m,l=some m->∃y∈E,y.2=m/\∀(j c:Nat),i<=j->ks[j]? = some c->y.1<=c
 len:E.length<=i
theorem m9.start(D:Es)(ks:List Nat):m9 D ks 0 none []:=⟨by simp,λx hx=>(by cases hx),λj c k h=>absurd h (Nat.not_lt_zero _),λ_=>rfl,λm h=>(by cases h),zero_le _⟩
theorem Hn (h:ks.Pairwise (· <= ·)){j:Nat}(hij:i<=j)(hc:ks[i]? = some c)(hd:ks[j]? = some d):c<=d:=by
 rcases Nat.lt_or_eq_of_le hij with hlt|rfl
 ·obtain⟨h1,e1⟩:=List.getElem?_eq_some_iff.mp hc
  obtain⟨h2,e2⟩:=List.getElem?_eq_some_iff.mp hd;have:=List.pairwise_iff_getElem.mp h i j h1 h2 hlt;rw[e1,e2] at this;exact this
 ·rw[hc] at hd;cases hd;exact le_refl _
theorem m9.take{D:Es}  {l:Option Nat}(hD:(D.map (·.1)).Nodup)(hs:ks.Pairwise (· <= ·))(U:m9 D ks i l E)(hc:ks[i]? = some c)(hk:(c,k)∈D):m9 D ks (i+1) (some k) (kI E c k):=by
 have key:∀y∈E,∃z∈kI E c k,z.1=y.1/\z.2=y.2:=λy hy=>by
  by_cases e:y.1=c
  ·refine⟨(c,k),qI.mpr (.inl rfl),e.symm,?_⟩
   have:=zl1 hD (U.sub y hy) hk e;rw[this]
  ·exact⟨y,qI.mpr (.inr ⟨hy,e⟩),rfl,rfl⟩
 refine⟨Wu U.nodup _ _,λx hx=>?_,λj d q hj hd hq=>?_,λh=>(by cases h),λm hm=>?_,?_⟩
 ·rcases qI.mp hx with rfl|⟨h1,_⟩
  ·exact hk
  ·exact U.sub x h1
 ·rcases Nat.lt_or_eq_of_le (Nat.le_of_lt_succ hj) with hlt|rfl
  ·obtain⟨y,hy,e1,e2⟩:=U.dom j d q hlt hd hq
   obtain⟨z,hz,e3,e4⟩:=key y hy;exact⟨z,hz,by omega,by omega⟩
  ·rw[hc] at hd;cases hd
   have:=zl1 hD hk hq rfl;cases this
   exact⟨(c,k),qI.mpr (.inl rfl),le_refl _,le_refl _⟩
 ·cases hm
  exact⟨(c,k),qI.mpr (.inl rfl),rfl,λj d hj hd=>Hn hs (by omega) hc hd⟩
 ·have:=Wv E c k
  have:=U.len;omega
theorem m9.skip{D:Es}  (hD:(D.map (·.1)).Nodup)(U:m9 D ks i (some m) E)(hc:ks[i]? = some c)(hk:(c,k)∈D)(hm:m<=k):m9 D ks (i+1) (some m) E:=by
 refine⟨U.nodup,U.sub,λj d q hj hd hq=>?_,λh=>(by cases h),λm' h'=>?_,le_trans U.len (Nat.le_succ i)⟩
 ·rcases Nat.lt_or_eq_of_le (Nat.le_of_lt_succ hj) with hlt|rfl
  ·exact U.dom j d q hlt hd hq
  ·rw[hc] at hd;cases hd
   have:=zl1 hD hk hq rfl;cases this
   obtain⟨y,hy,e1,e2⟩:=U.least m rfl;exact⟨y,hy,e2 j _ (le_refl _) hc,by omega⟩
 ·obtain⟨y,hy,e1,e2⟩:=U.least m' h'
  exact⟨y,hy,e1,λj d hj hd=>e2 j d (by omega) hd⟩
theorem m9.done{D:Es} {l:Option Nat}(hp:ks.Perm (D.map (·.1)))(U:m9 D ks ks.length l E):Cg D E:=by
 refine⟨U.nodup,U.sub,λx hx=>?_⟩;have hm:x.1∈ks:=hp.mem_iff.mpr (List.mem_map.mpr ⟨x,hx,rfl⟩);obtain⟨j,hj,e⟩:=List.mem_iff_getElem.mp hm;exact U.dom j x.1 x.2 hj (by rw[getElem?_eq_getElem hj,e]) hx
def cB(d:Addr)(H H':Hp):Prop:=∀b o,H b=some o->b≠d->H' b=some o
theorem cB.refl{d:Addr} : cB d H H:=λ_ _ e _=>e
theorem cB.trans{d:Addr} (a:cB d H H1)(b:cB d H1 H2):cB d H H2:=λc o e n=>b c o (a c o e n) n
theorem cB.of{d:Addr} (s:Same H H'):cB d H H':=λb o e _=>s b o e
theorem qJ{d:Addr} {o:HO}:cB d H (upd H d o):=λb o' e n=>by rw[aJ n];exact e
inductive zT(vs:List V)(H:Hp)(Q:VK)(E':XK):Prop
 |mk (d e:Addr) (o:Obj) (E M:Es) (sp:Nat) (z0:vs=[.ref d,.ref e,.int (sp:Nat)]) (z1:H d=some (.dK (cL E))) (z2:H e=some (.d6 o (.dK (cL M)))) (z3:(E.map (·.1)).Nodup) (z4:(M.map (·.1)).Nodup) (z5:E.length+M.length<=1000000) (z6:∀(D:Es) (H':Hp),Added E M sp D->H' d=some (.dK (cL D))->cB d H H'->Q .non H'):zT vs H Q E'
inductive zU(vs:List V)(H:Hp)(Q:VK)(E':XK):Prop
 |mk (d:Addr) (D:Es) (z0:vs=[.ref d]) (z1:H d=some (.dK (cL D))) (z2:(D.map (·.1)).Nodup) (z3:D.length<64) (z4:∀(p:Addr) (E:Es) (H':Hp),Cg D E->E.length<=64->Same H H'->H p=none->H' p=some (.dK (cL E))->Q (.ref p) H'):zU vs H Q E'
theorem Ww:cQ ["ends","more","spent","column","cost"] ["ends","more","spent"] (cg Br):=⟨rfl,rfl,rfl, ⋯,rfl, ⋯, ⋯⟩
theorem HA(F:cA K "add_ends" "add_ends" Br f fd):aH P w K mg base aB 1 f fd ["ends","more","spent"] zT:=by
 refine F.cU Ww (λvs H Q E h=>?_) (λcdv A outer s H vs Q E hr h=>?_)
 ·obtain⟨d,e,o,E,M,sp,rfl,_⟩:=h
  rfl
 obtain⟨d,e,o,E,M,sp,rfl,hd,he,hE,hM,hz,q⟩:=h;have nd:=Ww.nd;have hu1:=hr.units;have hu:(A.deeper (PyProof.Rows.envOfC "add_ends" (cg Br) s.heap.objs.size f cdv)).units+1<cLine:=by omega
 refine⟨_,aL (lK PassesOwn.never rfl (Gj (a6 1)) (jX (i:=3) nd rfl (Or.inl rfl)) (
   au (aO (i:=4) nd rfl (Or.inl rfl) (bK iQ (a6 2) (qm hu (a6 1) (a6 3) (λ_ _=>rfl))))<|
   aL (cN (PW.vN (vP (jZ (yR hu (a6 3) (a6 0))) (vO (cI vD (a6 4) (qm hu (a6 0) (a6 3) (λ_ _=>rfl)) (cP _))))) (aL (yS hu (a6 0) (a6 3) (a6 4) rfl)) cW))),?_⟩
 have Wx:e≠d:=cR he hd (by intro z;cases z)
 refine⟨_,rfl,e,o,_,rfl,he,Uy (a:=e) (o:=o) (kvs:=cL M) (λi σ H2=>∃(v3 v4:Option V) (D:Es),σ=[some (.ref d),some (.ref e),some (.int (sp:Nat)),v3,v4]/\Added E (M.take i) sp D/\H2 d=some (.dK (cL D))/\cB d H H2)
  ⟨_,_,E,rfl,by rw[take_zero];exact Added.start hE sp,hd,cB.refl⟩ (λi σ H2 _ ⟨_,_,_,_,_,_,b⟩=>b _ _ he Wx) ?_ ?_⟩
 ·rintro i kv σ H2 hkv ⟨v3,v4,D,rfl,A',hd2,b2⟩
  obtain⟨c,k,hck,rfl⟩:=Je hkv;have he2:=b2 _ _ he Wx;have hv:gO (cL M) (.inl ((c:Nat):Int))=some (V.int ((k:Nat):Int)):=by rw[zQ,Jg hM (mem_of_getElem? hck)];rfl
  have hl:=A'.len;rw[length_take] at hl
  have hil:i<M.length:=(List.getElem?_eq_some_iff.mp hck).1;refine⟨_,rfl,_,rfl,_,rfl,e,_,rfl,by rw[<-hv];exact .inl ⟨_,_,.inr ⟨o,he2⟩,rfl,rfl⟩,_,_,rfl,rfl,?_⟩;refine⟨_,rfl,_,rfl,d,_,rfl,iG.k hd2,_,rfl,?_⟩;have put:∀H3,H3=H2->(kh D c=none\/∃j,kh D c=some j/\sp+k<j)->∃v H4,V.ref d=.ref v/\nq H3 v (.int ((c:Nat):Int)) (.int ((sp:Nat)+(k:Nat):Int)) H4/\∃(v3 v4:Option V) (D:Es),[some (V.ref d),some (V.ref e),some (V.int (sp:Nat)),some (V.int ((c:Nat):Int)),some (V.int ((sp:Nat)+(k:Nat):Int))]=[some (V.ref d),some (V.ref e),some (V.int (sp:Nat)),v3,v4]/\Added E (M.take (i+1)) sp D/\H4 d=some (.dK (cL D))/\cB d H H4:=λH3 e3 hh=>by
   subst e3;refine⟨d,_,rfl,nq.k (k:=.inl ((c:Nat):Int)) hd2 (lt_of_lt_of_le (show(cL D).length<1000001 by rw[zR];omega) (d4 (by omega))),_,_,kI D c (sp+k),rfl,by rw[zk3 hck];exact A'.put hh,?_,b2.trans qJ⟩;rw[a8];have:((sp:Nat):Int)+((k:Nat):Int)=((sp+k:Nat):Int):=by omega
   rw[this,Ws]
  rw[zQ];cases hg:kh D c with
  |none=>exact fu (fu ⟨_,rfl,_,rfl,_,rfl,put _ rfl (.inl hg)⟩)
  |some j=>
   refine gM ⟨_,rfl,_,rfl,_,rfl,d,.int ((j:Nat):Int),rfl,?_,_,_,rfl,rfl,_,rfl,?_⟩
   ·have:=iG.k (k:=.inl ((c:Nat):Int)) hd2
    rw[zQ,hg] at this
    exact this
   ·refine jH (λh=>?_) (λh=>?_)
    ·have h':=of_decide_eq_true h
     exact⟨_,rfl,_,rfl,_,rfl,put _ rfl (.inr ⟨j,hg,by omega⟩)⟩
    ·have h':¬((sp:Nat):Int)+((k:Nat):Int)<((j:Nat):Int):=λz=>h (decide_eq_true z)
     exact⟨_,_,D,rfl,by rw[zk3 hck];exact A'.keep hg (by omega),hd2,b2⟩
 ·rintro σ H2 ⟨v3,v4,D,rfl,A',hd2,b2⟩
  rw[zR,take_length] at A'
  exact q D H2 A' hd2 b2
theorem Wy:cQ ["ends","kept","least","column"] ["ends"] (cg Bs):=⟨rfl,rfl,rfl, ⋯,rfl, ⋯, ⋯⟩
theorem HC(F:cA K "undominated" "undominated" Bs f fd)(ms:mg "sorted"=none):aH P w K mg base aB 1 f fd ["ends"] zU:=by
 refine F.cU Wy (λvs H Q E h=>?_) (λcdv A outer s H vs Q E hr h=>?_)
 ·obtain⟨d,D,rfl,_⟩:=h
  rfl
 obtain⟨d,D,rfl,hd,hD,hz,q⟩:=h;have nd:=Wy.nd;have hu1:=hr.units;have hu:(A.deeper (PyProof.Rows.envOfC "undominated" (cg Bs) s.heap.objs.size f cdv)).units+1<cLine:=by omega
 refine⟨_,au (aO (i:=1) nd rfl (Or.inl rfl) Uz)<|
  au (aO (i:=2) nd rfl (Or.inl rfl) Fv)<|
  au (lK PassesOwn.never rfl (nU (j4 (As rfl) rfl ms ⋯ (aq (a6 0) a7))) (jX (i:=3) nd rfl (Or.inl rfl)) (
   aL (cN (PW.vN (vP (jZ (Fx (a6 2))) (vO (cI vD (qm hu (a6 0) (a6 3) (λ_ _=>rfl)) (a6 2) (cP _))))) (au (aO (i:=2) nd rfl (Or.inl rfl) (qm hu (a6 0) (a6 3) (λ_ _=>rfl))) (aL (yS hu (a6 1) (a6 3) (a6 2) rfl))) cW)))<|
  aL (bx (a6 1)),?_⟩
 intro p hp;have Wz:d≠p:=c6 hd hp;have hd1:(upd H p (.dK [])) d=some (.dK (cL D)):=by rw[aJ Wz];exact hd
 refine⟨_,rfl,d,cL D,D.map (λx=>((x.1:Nat):Int)),rfl,.inl hd1,?_,by rw[length_map];exact hz,λl ns' pm so hl=>?_⟩
 ·unfold cL;rw[map_map,map_map];rfl
 obtain⟨ks,rfl,pk⟩:∃ks:List Nat,ns'=ks.map (λc=>((c:Nat):Int))/\ks.Perm (D.map (·.1)):=by
  refine⟨ns'.map Int.toNat,?_,?_⟩
  ·rw[map_map]
   conv=>lhs;rw[<-map_id ns']
   refine map_congr_left λn hn=>?_
   have:=pm.mem_iff.mp hn;obtain⟨x,_,rfl⟩:=List.mem_map.mp this
   simp
  ·have:=pm.map Int.toNat
   rw[map_map] at this
   exact this
 have so':ks.Pairwise (· <= ·):=by
  rw[pairwise_map] at so
  exact so.imp λh=>by omega
 have iY:p≠l:=c6 a8 hl;have HE:d≠l:=c6 hd1 hl;have hl0:H l=none:=by rw[aJ iY.symm] at hl;exact hl
 have el:(upd (upd H p (.dK [])) l (.lst ((ks.map λc=>((c:Nat):Int)).map V.int))) l=some (.lst ((ks.map λc=>((c:Nat):Int)).map V.int)):=a8;have hlen:((ks.map λc=>((c:Nat):Int)).map V.int).length=ks.length:=by rw[length_map,length_map]
 have hkl:ks.length<64:=by have:=pk.length_eq;rw[length_map] at this;omega
 have s0:Same H (upd (upd H p (.dK [])) l (.lst ((ks.map λc=>((c:Nat):Int)).map V.int))):=(ao hp _).trans (ao hl _)
 refine⟨l,rfl,⟨_,aG.of el⟩,yd (K:=K) (a:=l) (xs:=(ks.map λc=>((c:Nat):Int)).map V.int) (λi σ H2=>∃(v3:Option V) (m:Option Nat) (E:Es),σ=[some (.ref d),some (.ref p),some (match m with|none=>.non|some k=>.int ((k:Nat):Int)),v3]/\m9 D ks i m E/\H2 p=some (.dK (cL E))/\cB p (upd (upd H p (.dK [])) l (.lst ((ks.map λc=>((c:Nat):Int)).map V.int))) H2)
  ⟨_,none,[],rfl,m9.start D ks,(by rw[aJ iY,a8];rfl),cB.refl⟩ (λi σ H2 _ ⟨_,_,_,_,_,_,b⟩=>aG.of (b _ _ el iY.symm)) ?_ ?_⟩
 ·rintro i x σ H2 hx ⟨v3,m,E,rfl,U,hp2,b2⟩
  obtain⟨c,hc,rfl⟩:∃c,ks[i]? = some c/\x=.int ((c:Nat):Int):=by
   rw[getElem?_map,getElem?_map] at hx
   cases z:ks[i]? with
   |none=>rw[z] at hx;cases hx
   |some c=>rw[z] at hx;cases hx;exact⟨c,rfl,rfl⟩
  have hi:i<ks.length:=(List.getElem?_eq_some_iff.mp hc).1;obtain⟨y,hy,ey⟩:∃y∈D,y.1=c:=List.mem_map.mp (pk.mem_iff.mp (mem_of_getElem? hc));have hk:(c,y.2)∈D:=by rw[<-ey];exact hy
  have hd2:H2 d=some (.dK (cL D)):=b2 _ _ (by rw[aJ HE];exact hd1) Wz;have hg:iG H2 d (.int ((c:Nat):Int)) (some (.int ((y.2:Nat):Int))):=by
   have:=iG.k (k:=.inl ((c:Nat):Int)) hd2;rw[zQ,Jg hD hk] at this
   exact this
  have hel:=U.len;have put:∀(vv:V),vv=.int ((y.2:Nat):Int)->∃v H4,V.ref p=.ref v/\nq H2 v (.int ((c:Nat):Int)) vv H4/\∃(v3:Option V) (m:Option Nat) (E:Es),[some (V.ref d),some (V.ref p),some vv,some (V.int ((c:Nat):Int))]=[some (.ref d),some (.ref p),some (match m with|none=>.non|some k=>.int ((k:Nat):Int)),v3]/\m9 D ks (i+1) m E/\H4 p=some (.dK (cL E))/\cB p (upd (upd H p (.dK [])) l (.lst ((ks.map λc=>((c:Nat):Int)).map V.int))) H4:=λvv e=>by
   subst e;refine⟨p,_,rfl,nq.k (k:=.inl ((c:Nat):Int)) hp2 (lt_of_lt_of_le (show(cL E).length<1000001 by rw[zR];omega) (d4 (by omega))),_,some y.2,kI E c y.2,rfl,U.take hD so' hc hk,?_,b2.trans qJ⟩;rw[a8,Ws]
  refine⟨_,rfl,_,rfl,?_⟩;cases m with
  |none=>exact fu (fu ⟨_,rfl,_,rfl,d,_,rfl,hg,_,rfl,_,rfl,_,rfl,put _ rfl⟩)
  |some m=>
   refine gM ⟨_,rfl,_,rfl,d,_,rfl,hg,_,rfl,_,_,rfl,rfl,_,rfl,?_⟩;refine jH (λh=>?_) (λh=>?_)
   ·exact⟨_,rfl,_,rfl,d,_,rfl,hg,_,rfl,_,rfl,_,rfl,put _ rfl⟩
   ·have h':¬((y.2:Nat):Int)<((m:Nat):Int):=λz=>h (decide_eq_true z)
    exact⟨_,some m,E,rfl,U.skip hD hc hk (by omega),hp2,b2⟩
 ·rintro σ H2 ⟨v3,m,E,rfl,U,hp2,b2⟩
  rw[hlen] at U
  refine⟨_,rfl,q p E H2 (U.done pk) (by have:=U.len;omega) (λb o e=>b2 _ _ (s0 _ _ e) (c6 e hp)) hp hp2⟩
abbrev cV:=Nd×Nat×Nat
variable {x:cV}{need ms U:List cV}
def eF:Nd->Nat->Nat->Nd×Nat
 |.nest k a,c,m=>eF a c (m+k)
 |.align a,c,_=>eF a c c
 |a,_,m=>(a,m)
def qK:Nd->Bool
 |.nest _ _=>false
 |.align _=>false
 |_=>true
def bB(a:Nd)(c m:Nat):cV:=((eF a c m).1,c,(eF a c m).2)
theorem zV:∀(a:Nd) (c m:Nat),qK (eF a c m).1=true
 |.nest k a,c,m=>zV a c (m+k)
 |.align a,c,_=>zV a c c
 |.text _,_,_=>rfl
 |.brk,_,_=>rfl
 |.beside _ _,_,_=>rfl
 |.choice _ _,_,_=>rfl
theorem Ji (h:qK a=true)(c m:Nat):eF a c m=(a,m):=by cases a<;>first|rfl|cases h
theorem HG (h:qK a=true)(c m:Nat):bB a c m=(a,c,m):=by unfold bB;rw[Ji h]
theorem zW(w:Nat):∀(a:Nd) (c m:Nat),d9 w a c m=d9 w (eF a c m).1 c (eF a c m).2
 |.nest k a,c,m=>zW w a c (m+k)
 |.align a,c,_=>zW w a c c
 |.text _,_,_=>rfl
 |.brk,_,_=>rfl
 |.beside _ _,_,_=>rfl
 |.choice _ _,_,_=>rfl
theorem Cj{w:Nat}:∀(a:Nd) (c m:Nat) {E:Es},dI w [((eF a c m).1,(eF a c m).2)] c E->dI w [(a,m)] c E
 |.nest k a,c,m,E,h=>(Cj a c (m+k) h).nest
 |.align a,c,_,E,h=>(Cj a c c h).align
 |.text _,_,_,_,h=>h
 |.brk,_,_,_,h=>h
 |.beside _ _,_,_,_,h=>h
 |.choice _ _,_,_,_,h=>h
noncomputable def zl0(w:Nat):Nd->Nat->Nat->List cV
 |.text n,c,m=>[(.text n,c,m)]
 |.brk,c,m=>[(.brk,c,m)]
 |.nest k a,c,m=>zl0 w a c (m+k)
 |.align a,c,_=>zl0 w a c c
 |.choice a b,c,m=>(.choice a b,c,m)::(zl0 w a c m++zl0 w b c m)
 |.beside a b,c,m=>(.beside a b,c,m)::(zl0 w a c m++(d9 w a c m).flatMap λo=>zl0 w b o.2.1 m)
theorem zX(w:Nat):∀(a:Nd) (c m:Nat),zl0 w a c m=zl0 w (eF a c m).1 c (eF a c m).2
 |.nest k a,c,m=>zX w a c (m+k)
 |.align a,c,_=>zX w a c c
 |.text _,_,_=>rfl
 |.brk,_,_=>rfl
 |.beside _ _,_,_=>rfl
 |.choice _ _,_,_=>rfl
theorem HH(w:Nat)(a:Nd)(c m:Nat):bB a c m∈zl0 w a c m:=by
 rw[zX];unfold bB;have h:=zV a c m
 generalize (eF a c m)=x at h
 obtain⟨a',m'⟩:=x;cases a'<;>first|(simp[zl0];done)|cases h
noncomputable def cw(w:Nat):Nd->Nat->Nat->Nat
 |.text _,_,_=>1
 |.brk,_,_=>1
 |.nest k a,c,m=>cw w a c (m+k)
 |.align a,c,_=>cw w a c c
 |.choice a b,c,m=>2+cw w a c m+cw w b c m
 |.beside a b,c,m=>3+cw w a c m+((d9 w a c m).map λo=>cw w b o.2.1 m).sum
theorem zY(w:Nat):∀(a:Nd) (c m:Nat),cw w a c m=cw w (eF a c m).1 c (eF a c m).2
 |.nest k a,c,m=>zY w a c (m+k)
 |.align a,c,_=>zY w a c c
 |.text _,_,_=>rfl
 |.brk,_,_=>rfl
 |.beside _ _,_,_=>rfl
 |.choice _ _,_,_=>rfl
theorem Jj(w:Nat):∀(a:Nd) (c m:Nat),1<=cw w a c m
 |.nest k a,c,m=>Jj w a c (m+k)
 |.align a,c,_=>Jj w a c c
 |.text _,_,_=>le_refl _
 |.brk,_,_=>le_refl _
 |.beside _ _,_,_=>by show 1<=3+_+_;omega
 |.choice _ _,_,_=>by show 1<=2+_+_;omega
def tot(a:Nd):Nat:=(aV a).1.length+(aV a).2.length
def fj:Nd->Prop
 |.text _=>True
 |.brk=>True
 |.nest _ a=>fj a
 |.align a=>fj a
 |.choice a b=>fj a/\fj b/\tot (.choice a b)<=63
 |.beside a b=>fj a/\fj b/\tot (.beside a b)<=63
theorem fj.spot:∀ {a:Nd} (c m:Nat),fj a->fj (eF a c m).1
 |.nest k a,c,m,h=>fj.spot (a:=a) c (m+k) h
 |.align a,c,_,h=>fj.spot (a:=a) c c h
 |.text _,_,_,h=>h
 |.brk,_,_,h=>h
 |.beside _ _,_,_,h=>h
 |.choice _ _,_,_,h=>h
theorem WD  (hn:zk4 (.beside a b)=none):cnt 1 ([(a,m)]++[(b,m)])=tot (.beside a b):=by
 show(aV b).1.length+(aV b).2.length*((aV a).1.length+(aV a).2.length*1)=_;have e0:aV (.beside a b)=((aV b).1++(aV a).1.flatMap (λx=>(aV b).2.map (x + ·)),(aV a).2.flatMap λx=>(aV b).2.map (x + ·)):=by
  have hn:fV (· + ·) (zk4 a) (zk4 b)=none:=hn
  conv=>lhs;unfold aV
  rw[hn]
 unfold tot;rw[e0];show _=((aV b).1++(aV a).1.flatMap (λx=>(aV b).2.map (x + ·))).length+((aV a).2.flatMap λx=>(aV b).2.map (x + ·)).length;rw[length_append,lM _ (aV b).2.length (aV a).1 (λ_ _=>by rw[length_map]),lM _ (aV b).2.length (aV a).2 (λ_ _=>by rw[length_map])];rw[Nat.mul_one,mul_add,mul_comm (aV b).2.length,mul_comm (aV b).2.length,add_assoc]
theorem HI(a:Nd)(m:Nat):cnt 1 [(a,m)]=tot a:=by show(aV a).1.length+(aV a).2.length*1=_;rw[Nat.mul_one];rfl
theorem WK(f:Nat->Nat):∀(ks R:List Nat),ks.Nodup->(∀k∈ks,k∈R)->(ks.map f).sum<=(R.map f).sum
 |[],R,_,_=>zero_le _
 |k::ks,R,hn,h=>by
  obtain⟨l1,l2,e⟩:=List.append_of_mem (h k mem_cons_self);rw[nodup_cons] at hn
  have ih:=WK f ks (l1++l2) hn.2 λx hx=>by
   have:=h x (mem_cons_of_mem _ hx);rw[e] at this
   rcases List.mem_append.mp this with z|z
   ·exact mem_append_left _ z
   ·rcases List.mem_cons.mp z with rfl|z
    ·exact absurd hx hn.1
    ·exact mem_append_right _ z
  rw[e];simp only[map_append,map_cons,sum_append,sum_cons] at ih ⊢
  omega
theorem Jk{α β:Type}(Rl:α->β->Prop)(inj:∀a a' b,Rl a b->Rl a' b->a=a'):∀(ks:List α) (U:List β),ks.Nodup->(∀k∈ks,∃u∈U,Rl k u)->ks.length<=U.length
 |[],U,_,_=>zero_le _
 |k::ks,U,hn,h=>by
  obtain⟨u,hu,hr⟩:=h k mem_cons_self;obtain⟨l1,l2,e⟩:=List.append_of_mem hu;rw[nodup_cons] at hn
  have ih:=Jk Rl inj ks (l1++l2) hn.2 λx hx=>by
   obtain⟨v,hv,hrv⟩:=h x (mem_cons_of_mem _ hx);rw[e] at hv
   rcases List.mem_append.mp hv with z|z
   ·exact⟨v,mem_append_left _ z,hrv⟩
   ·rcases List.mem_cons.mp z with rfl|z
    ·exact absurd (inj _ _ _ hrv hr▸hx) hn.1
    ·exact⟨v,mem_append_right _ z,hrv⟩
  rw[e];simp only[length_append,length_cons] at ih ⊢
  omega
theorem WM{R:List Nat}(hn:ks.Nodup)(h:∀k∈ks,k∈R):ks.length<=R.length:=Jk (λa b=>a=b) (λa a' b h1 h2=>h1.trans h2.symm) ks R hn λk hk=>⟨k,h k hk,rfl⟩
theorem Jl{α:Type}(f:α->Nat){l l':List α}(h:l.Sublist l'):(l.map f).sum<=(l'.map f).sum:=by
 induction h with
 |slnil=>exact le_refl _
 |cons a _ ih=>simp only[map_cons,sum_cons];omega
 |cons_cons a _ ih=>simp only[map_cons,sum_cons];omega
theorem WQ{w:Nat}{q:Sq} {B:Es}  (h:dI w q c B){y:Nat×Nat}(hy:y∈B){Ey:Es}(hE:dI w [(b,m)] y.1 Ey){z:Nat×Nat}(hz:z∈Ey):z.1∈esl [c] (q++[(b,m)]):=by
 rw[Hd];have h1:=h.ends y hy;have h2:z.1∈j6 [y.1] (b,m):=hE.ends z hz;rcases ji.mp h2 with⟨e,he,e2⟩|⟨e,he,d,hd,e2⟩
 ·exact ji.mpr (.inl ⟨e,he,e2⟩)
 ·rw[List.mem_singleton.mp he] at e2
  exact ji.mpr (.inr ⟨y.1,h1,d,hd,e2⟩)
theorem dI.HK{w:Nat}{q:Sq} {B D:Es}  (h:dI w q c B)
  (hs:∀x∈D,∃y∈B,∃Ey,dI w [(b,m)] y.1 Ey/\∃z∈Ey,x=(z.1,y.2+z.2)) (hc:∀y∈B,∃Ey,dI w [(b,m)] y.1 Ey/\∀z∈Ey,∃x∈D,x.1=z.1/\x.2<=y.2+z.2) (u:Cg D E):dI w (q++[(b,m)]) c E:=by
 refine⟨u.nodup,λx hx=>?_,λo ho=>?_,λx hx=>?_⟩
 ·obtain⟨y,hy,Ey,hE,z,hz,rfl⟩:=hs x (u.sub x hx)
  obtain⟨s1,h1⟩:=h.sound y hy;obtain⟨s2,h2⟩:=hE.sound z hz;exact⟨s1++s2,by rw[Jd];exact pq.mpr ⟨_,h1,_,h2,rfl⟩⟩
 ·rw[Jd] at ho
  obtain⟨x,hx,y,hy,rfl⟩:=pq.mp ho;obtain⟨x2,hx2,e1,e2⟩:=h.qH x hx;rw[jQ] at hy
  obtain⟨y2,hy2,e3,e4⟩:=uQ w b e1 (le_refl m) y hy;obtain⟨Ey,hE,hcc⟩:=hc x2 hx2;obtain⟨z,hz,e5,e6⟩:=hE.qH y2 (by rw[jQ];exact hy2);obtain⟨v,hv,e7,e8⟩:=hcc z hz;obtain⟨v2,hv2,e9,e10⟩:=u.dom v hv;refine⟨v2,hv2,?_,?_⟩
  ·show v2.1<=y.2.1;omega
  ·show v2.2<=x.2.2+y.2.2;omega
 ·obtain⟨y,hy,Ey,hE,z,hz,rfl⟩:=hs x (u.sub x hx)
  exact WQ h hy hE (z:=z) hz
theorem cj.inj (hn:T.Nodup):∀ {a:Nd} {i j:Nat},cj T i a->cj T j a->i=j:=by
 have key:∀ {i j:Nat} {r:Raw},T[i]? = some r->T[j]? = some r->i=j:=λ{i j r} h1 h2=>by
  have:=(List.getElem?_eq_some_iff.mp h1).1;exact(List.getElem?_inj this hn).mp (h1.trans h2.symm)
 intro a
 induction a with
 |text n=>intro i j h1 h2;exact key h1 h2
 |brk=>intro i j h1 h2;exact key h1 h2
 |nest k a ih=>
  rintro i j ⟨x,h1,h2⟩ ⟨y,h3,h4⟩
  rw[ih h2 h4] at h1
  exact key h1 h3
 |align a ih=>
  rintro i j ⟨x,h1,h2⟩ ⟨y,h3,h4⟩
  rw[ih h2 h4] at h1
  exact key h1 h3
 |beside a b ia ib=>
  rintro i j ⟨x,y,h1,h2,h3⟩ ⟨x',y',h4,h5,h6⟩
  rw[ia h2 h5,ib h3 h6] at h1
  exact key h1 h4
 |choice a b ia ib=>
  rintro i j ⟨x,y,h1,h2,h3⟩ ⟨x',y',h4,h5,h6⟩
  rw[ia h2 h5,ib h3 h6] at h1
  exact key h1 h4
noncomputable def sf(n kn:Addr)(w:Nat):List (Str×V):=[("nodes",V.ref n),("width",V.int ((w:Nat):Int)),("known",V.ref kn)]
theorem sW(n kn:Addr)(w:Nat):(sf n kn w).lookup ("nodes":Str)=some (.ref n):=by simp[sf,List.lookup]
theorem HL(n kn:Addr)(w:Nat):(sf n kn w).lookup ("width":Str)=some (.int ((w:Nat):Int)):=by
 have h:(("width":Str)=="nodes")=false:=by decide +kernel
 simp[sf,List.lookup,h]
theorem mj(n kn:Addr)(w:Nat):(sf n kn w).lookup ("known":Str)=some (.ref kn):=by
 have h:(("known":Str)=="nodes")=false:=by decide +kernel
 have h2:(("known":Str)=="width")=false:=by decide +kernel
 simp[sf,List.lookup,h,h2]
theorem gY(n kn:Addr)(w:Nat){m:Str}(h1:(m==("nodes":Str))=false)(h2:(m==("width":Str))=false)(h3:(m==("known":Str))=false):(sf n kn w).lookup m=none:=by
 simp[sf,List.lookup,h1,h2,h3]
theorem WR:¬(("nodes":Str)="width"):=by decide +kernel
theorem HM:¬(("nodes":Str)="known"):=by decide +kernel
theorem HQ:¬(("width":Str)="known"):=by decide +kernel
theorem HR(n kn:Addr)(w:Nat):eY "known" (.ref kn) (eY "width" (.int ((w:Nat):Int)) (eY "nodes" (.ref n) []))=sf n kn w:=by
 show eY "known" (.ref kn) (eY "width" (.int ((w:Nat):Int)) [(("nodes":Str),V.ref n)])=_
 have e1:eY "width" (.int ((w:Nat):Int)) [(("nodes":Str),V.ref n)]=([("nodes",V.ref n),("width",V.int ((w:Nat):Int))]:List (Str×V)):=by
  show(if("nodes":Str)="width" then _ else _)=_
  rw[if_neg WR]<;>rfl
 rw[e1];show(if("nodes":Str)="known" then _ else(("nodes":Str),V.ref n)::(if("width":Str)="known" then _ else(("width":Str),V.int ((w:Nat):Int))::eY "known" (.ref kn) []))=_
 rw[if_neg HM,if_neg HQ]<;>rfl
structure kZ(K:Frag)(mg:eV)(C:Addr):Prop where
 cl:Cls K C
 qL:jF K C "nodes"
 WT:jF K C "width"
 lu:jF K C "known"
 sb:∃t,mg "SIGN_BEYOND"=some (.int 1000000000000 t)
 min:mg "min"=none
 max:mg "max"=none
 rev:mg "reversed"=none
 dict:mg "dict"=none
structure Ent where
 i:Nat
 c:Nat
 m:Nat
 d:Addr
 o:Obj
 E:Es
variable {Ks bH:List Ent}
def nJ(i c m:Nat):List Key:=[.inl ((i:Nat):Int),.inl ((c:Nat):Int),.inl ((m:Nat):Int)]
def jo(e:Ent):List Key×V:=(nJ e.i e.c e.m,.ref e.d)
def jx(T:List Raw)(e:Ent)(x:cV):Prop:=cj T e.i x.1/\e.c=x.2.1/\e.m=x.2.2
structure HU(H:Hp)(T:List Raw)(w:Nat)(U:List cV)(e:Ent):Prop where
 at_:∃a,cj T e.i a/\(a,e.c,e.m)∈U/\dI w [(a,e.m)] e.c e.E
 d6:H e.d=some (.d6 e.o (.dK (cL e.E)))
 len:e.E.length<=64
def Kn(T:List Raw)(Ks:List Ent)(x:cV):Prop:=∃e∈Ks,jx T e x
structure Gh where
 s:Addr
 n:Addr
 la:Addr
 na:Addr
 ga:Addr
 kn:Addr
 T:List Raw
 L:List (Option Nat)
 w:Nat
 U:List cV
structure eO(CN C:Addr)(H:Hp)(g:Gh)(Ks:List Ent):Prop where
 ob:∃dx,H g.s=some (.ins C dx (sf g.n g.kn g.w))
 no:gH CN H g.n g.la g.na g.ga g.T g.L
 kn:H g.kn=some (.dT (Ks.map jo))
 nd:(Ks.map λe=>(e.i,e.c,e.m)).Nodup
 ok:∀e∈Ks,HU H g.T g.w g.U e
 un:g.U.length<=16000000
 Jm:g.kn≠g.na
theorem eO.mono{CN C:Addr}{H H':Hp}{g:Gh}{Ks:List Ent}(S:eO CN C H g Ks)(s:Same H H'):eO CN C H' g Ks:=by
 obtain⟨⟨dx,h1⟩,h2,h3,h4,h5,h6,h7⟩:=S;exact⟨⟨dx,s _ _ h1⟩,h2.mono s,s _ _ h3,h4,λe he=>⟨(h5 e he).at_,s _ _ (h5 e he).d6,(h5 e he).len⟩,h6,h7⟩
theorem eO.list  {g:Gh} (S:eO CN C H g Ks){W:Addr} (w:H W=some (.lst xs))(n1:W≠g.la)(n2:W≠g.ga)(ys:List V):eO CN C (upd H W (.lst ys)) g Ks:=by
 obtain⟨⟨dx,h1⟩,⟨⟨iZ,g1⟩,⟨as,g2,g3⟩,g4,g5,g6,g7⟩,h3,h4,h5,h6,h7⟩:=S;have nn:∀ {b:Addr} {ob:HO},H b=some ob->b≠W->(upd H W (.lst ys)) b=some ob:=λe h=>by rw[aJ h];exact e
 exact⟨⟨dx,nn h1 (cR h1 w (by intro z;cases z))⟩,⟨⟨iZ,nn g1 (cR g1 w (by intro z;cases z))⟩,⟨as,nn g2 n1.symm,g3.mono (dX w)⟩,nn g4 (cR g4 w (by intro z;cases z)),nn g5 n2.symm,g6,g7⟩,nn h3 (cR h3 w (by intro z;cases z)),h4,
  λe he=>⟨(h5 e he).at_,nn (h5 e he).d6 (cR (h5 e he).d6 w (by intro z;cases z)),(h5 e he).len⟩,h6,h7⟩
theorem Ck{k:Addr} {kvs:List (List Key×V)}(b:cB k H H')(hk:H k=some (.dT kvs)):bQ H H':=λc xs e=>b _ _ e (cR e hk (by intro z;cases z))
theorem HV  {g:Gh} (S:eO CN C H g Ks):Ks.length<=g.U.length:=by
 have:=Jk (λ(k:Nat×Nat×Nat) (u:cV)=>cj g.T k.1 u.1/\k.2.1=u.2.1/\k.2.2=u.2.2) (λa a' b h1 h2=>by
  obtain⟨x1,x2,x3⟩:=a;obtain⟨y1,y2,y3⟩:=a';have e1:x1=y1:=cj.inj S.no.wf.nodup h1.1 h2.1;have e2:x2=y2:=h1.2.1.trans h2.2.1.symm;have e3:x3=y3:=h1.2.2.trans h2.2.2.symm
  rw[e1,e2,e3]) (Ks.map λe=>(e.i,e.c,e.m)) g.U S.nd λk hk=>by
   obtain⟨e,he,rfl⟩:=List.mem_map.mp hk;obtain⟨a,h1,h2,_⟩:=(S.ok e he).at_;exact⟨_,h2,h1,rfl,rfl⟩
 rwa [length_map] at this
theorem WW{i' c' m':Nat}(h:nJ i c m=nJ i' c' m'):i=i'/\c=c'/\m=m':=by
 unfold nJ at h
 simp only[List.cons.injEq,Sum.inl.injEq,and_true] at h
 omega
theorem HZ (hn:(Ks.map λe=>(e.i,e.c,e.m)).Nodup){e:Ent}(he:e∈Ks):gO (Ks.map jo) (nJ e.i e.c e.m)=some (.ref e.d):=by
 induction Ks with
 |nil=>cases he
 |cons x Ks ih=>
  rw[map_cons,nodup_cons] at hn
  rw[map_cons];rcases List.mem_cons.mp he with rfl|he
  ·exact yM (p:=jo e) rfl
  ·rw[uH (p:=jo x) (λz=>by
    obtain⟨h1,h2,h3⟩:=WW z
    exact hn.1 (List.mem_map.mpr ⟨e,he,by rw[h1,h2,h3]⟩))]
   exact ih hn.2 he
theorem Ic  (h:∀e∈Ks,¬(e.i=i/\e.c=c/\e.m=m)):gO (Ks.map jo) (nJ i c m)=none:=by
 induction Ks with
 |nil=>rfl
 |cons x Ks ih=>
  rw[map_cons,uH (p:=jo x) (λz=>h x mem_cons_self (WW z))];exact ih λe he=>h e (mem_cons_of_mem _ he)
theorem WX  {g:Gh} (S:eO CN C H g Ks)  (hi:cj g.T i a):
  (∃e∈Ks,jx g.T e (a,c,m)/\gO (Ks.map jo) (nJ i c m)=some (.ref e.d))\/(¬Kn g.T Ks (a,c,m)/\gO (Ks.map jo) (nJ i c m)=none):=by
 by_cases h:Kn g.T Ks (a,c,m)
 ·obtain⟨e,he,h1,h2,h3⟩:=h
  have e1:e.i=i:=cj.inj S.no.wf.nodup h1 hi;refine .inl ⟨e,he,⟨h1,h2,h3⟩,?_⟩;have:=HZ S.nd he;rw[e1,show e.c=c from h2,show e.m=m from h3] at this
  exact this
 ·exact .inr ⟨h,Ic λe he ⟨z1,z2,z3⟩=>h ⟨e,he,by rw[z1];exact hi,z2,z3⟩⟩
theorem Jo  {g:Gh} (S:eO CN C H g Ks){e e':Ent} (he:e∈Ks)(he':e'∈Ks)(h:jx g.T e x)(h':jx g.T e' x):e=e':=by
 have h1:e.i=e'.i:=cj.inj S.no.wf.nodup h.1 h'.1;have h2:e.c=e'.c:=h.2.1.trans h'.2.1.symm;have h3:e.m=e'.m:=h.2.2.trans h'.2.2.symm;have key:∀ {Ks:List Ent},(Ks.map λe=>(e.i,e.c,e.m)).Nodup->e∈Ks->e'∈Ks->e=e':=by
  intro Ks
  induction Ks with
  |nil=>intro _ z;cases z
  |cons x Ks ih=>
   intro hn z1 z2;rw[map_cons,nodup_cons] at hn
   rcases List.mem_cons.mp z1 with y1|y1
   ·rcases List.mem_cons.mp z2 with y2|y2
    ·rw[y1,y2]
    ·exact absurd (List.mem_map.mpr ⟨e',y2,by rw[<-y1,h1,h2,h3]⟩) hn.1
   ·rcases List.mem_cons.mp z2 with y2|y2
    ·exact absurd (List.mem_map.mpr ⟨e,y1,by rw[<-y2,h1,h2,h3]⟩) hn.1
    ·exact ih hn.2 y1 y2
 exact key S.nd he he'
def gZ(H:Hp)(T:List Raw)(t:Addr)(x:cV):Prop:=∃i:Nat,H t=some (.tup [.int ((i:Nat):Int),.int ((x.2.1:Nat):Int),.int ((x.2.2:Nat):Int)])/\cj T i x.1
theorem gZ.mono  (h:bQ H H'){t:Addr} : gZ H T t x->gZ H' T t x:=λ⟨i,e,q⟩=>⟨i,h _ _ e,q⟩
inductive wO(C:Addr)(vs:List V)(H:Hp)(Q:VK)(E':XK):Prop
 |mk (s n kn dx:Addr) (w c l:Nat) (z0:vs=[.ref s,.int (c:Nat),.int (l:Nat)]) (z1:H s=some (.ins C dx (sf n kn w))) (z2:Q (.int ((SB*ov w c l:Nat):Int)) H):wO C vs H Q E'
inductive zZ(C:Addr)(vs:List V)(H:Hp)(Q:VK)(E':XK):Prop
 |mk (s n kn dx:Addr) (w m:Nat) (z0:vs=[.ref s,.int (m:Nat)]) (z1:H s=some (.ins C dx (sf n kn w))) (z2:Q (.int ((1+SB*ov w 0 m:Nat):Int)) H):zZ C vs H Q E'
inductive uR(CN C:Addr)(vs:List V)(H:Hp)(Q:VK)(E':XK):Prop
 |mk (s n la na ga kn dx:Addr) (T:List Raw) (L:List (Option Nat)) (w i c m:Nat) (a:Nd) (z0:vs=[.ref s,.int (i:Nat),.int (c:Nat),.int (m:Nat)]) (z1:H s=some (.ins C dx (sf n kn w))) (z2:gH CN H n la na ga T L) (z3:cj T i a) (z4:∀(t:Addr) (H':Hp),Same H H'->H t=none->gZ H' T t (bB a c m)->Q (.ref t) H'):uR CN C vs H Q E'
theorem Iq:cQ ["self","column","length"] ["self","column","length"] (cg HX):=⟨rfl,rfl,rfl, ⋯,rfl, ⋯, ⋯⟩
theorem Iy(F:cA K "cost_of_signs" "Search.cost_of_signs" HX f fd)(T:kZ K mg C):aH P w K mg base aB 1 f fd ["self","column","length"] (wO C):=by
 refine F.cU Iq (λvs H Q E h=>?_) (λcdv A outer s H vs Q E hr h=>?_)
 ·obtain⟨s,n,kn,dx,w,c,l,rfl,_⟩:=h
  rfl
 obtain⟨o,n,kn,dx,wd,c,l,rfl,ho,q⟩:=h;obtain⟨tk,mS⟩:=T.sb;refine⟨_,aL (bx (bK u9 (oO rfl mS (v:=.int 1000000000000) ⟨_,rfl⟩) (j4 (Rk rfl) rfl T.min ⋯ (aq (a6 2) (dw (j4 (Rj rfl) rfl T.max ⋯ (aM ak (iC (bK pO (bK iQ (a6 1) (a6 2)) (dY (a6 0) rfl)) a7))) a7))))),?_⟩;refine⟨_,rfl,_,rfl,_,rfl,_,_,rfl,rfl,_,rfl,o,C,dx,_,_,rfl,ho,T.cl,T.WT,HL _ _ _,_,_,rfl,rfl,_,_,rfl,_,_,rfl,_,_,rfl,rfl,.inl ⟨by decide,by decide⟩,?_⟩;have e:(1000000000000:Int)*(if(if((c:Nat):Int)+((l:Nat):Int) - ((wd:Nat):Int) > 0 then((c:Nat):Int)+((l:Nat):Int) - ((wd:Nat):Int) else 0)<((l:Nat):Int) then(if((c:Nat):Int)+((l:Nat):Int) - ((wd:Nat):Int) > 0 then((c:Nat):Int)+((l:Nat):Int) - ((wd:Nat):Int) else 0) else((l:Nat):Int))=((SB*ov wd c l:Nat):Int):=by
  rw[Int.natCast_mul];show 1000000000000*_=1000000000000*_
  congr 1
  unfold ov
  split<;>(try split)<;>omega
 show Q (.int (1000000000000*_)) H;rw[e];exact q
theorem IA:cQ ["self","margin"] ["self","margin"] (cg HY):=⟨rfl,rfl,rfl, ⋯,rfl, ⋯, ⋯⟩
theorem IB  (F:cA K "cost_of_break" "Search.cost_of_break" HY f fd)(T:kZ K mg C)(SG:MO P w K mg base C aB 1 fS sD "cost_of_signs" ["self","column","length"] (wO C)):aH P w K mg base aB 2 f fd ["self","margin"] (zZ C):=by
 refine F.cU IA (λvs H Q E h=>?_) (λcdv A outer s H vs Q E hr h=>?_)
 ·obtain⟨s,n,kn,dx,w,m,rfl,_⟩:=h
  rfl
 obtain⟨o,n,kn,dx,wd,m,rfl,ho,q⟩:=h;refine⟨_,aL (bx (bK iQ ak (dU (a6 0) T.cl SG.m SG.ok hr SG.b .nil aU (aM ak (aq (a6 1) a7))))),?_⟩;refine⟨_,rfl,o,dx,_,rfl,ho,gY _ _ _ ⋯ ⋯ ⋯,_,rfl,o,n,kn,dx,wd,0,m,rfl,ho,_,_,rfl,rfl,?_⟩;have e:(1:Int)+((SB*ov wd 0 m:Nat):Int)=((1+SB*ov wd 0 m:Nat):Int):=by omega
 show Q (.int ((1:Int)+_)) H;rw[e];exact q
theorem WY:cQ ["self","number","column","margin","node"] ["self","number","column","margin"] (cg I0):=⟨rfl,rfl,rfl, ⋯,rfl, ⋯, ⋯⟩
theorem wQ   (h:cj T i a):∃r,T[i]? = some r/\∃hd tl,d7 r=.inr hd::tl/\inV (.str hd) [.str "nest",.str "align"] = !qK a:=by
 cases a with
 |text n=>exact⟨_,h,_,_,rfl,by show inV (.str "text") [.str "nest",.str "align"]=false;decide +kernel⟩
 |brk=>exact⟨_,h,_,_,rfl,by show inV (.str "break") [.str "nest",.str "align"]=false;decide +kernel⟩
 |nest k a=>obtain⟨j,e,_⟩:=h;exact⟨_,e,_,_,rfl,by show inV (.str "nest") [.str "nest",.str "align"]=true;decide +kernel⟩
 |align a=>obtain⟨j,e,_⟩:=h;exact⟨_,e,_,_,rfl,by show inV (.str "align") [.str "nest",.str "align"]=true;decide +kernel⟩
 |beside a b=>obtain⟨j,k,e,_⟩:=h;exact⟨_,e,_,_,rfl,by show inV (.str "beside") [.str "nest",.str "align"]=false;decide +kernel⟩
 |choice a b=>obtain⟨j,k,e,_⟩:=h;exact⟨_,e,_,_,rfl,by show inV (.str "choice") [.str "nest",.str "align"]=false;decide +kernel⟩
def oh:Nd->Nat
 |.nest _ a=>oh a+1
 |.align a=>oh a+1
 |_=>0
theorem A0  {p:Addr}  (N:gH CN H p la na ga T L) {r:Raw}(h:T[i]? = some r):∃(as:List Addr) (t:Addr),H la=some (.lst (as.map V.ref))/\dN (as.map V.ref) ((i:Nat):Int)=some (.ref t)/\lX H t r:=by
 obtain⟨as,h1,h2⟩:=N.li;obtain⟨t,h3,h4⟩:=h2.get h;exact⟨as,t,h1,gF (by rw[getElem?_map,h3];rfl),h4⟩
theorem IC(F:cA K "spot_of" "Search.spot_of" I0 f fd)(T:kZ K mg C)(TN:k9 K mg CN):aH P w K mg base aB 1 f fd ["self","number","column","margin"] (uR CN C):=by
 refine F.cU WY (λvs H Q E h=>?_) (λcdv A outer s H vs Q E hr h=>?_)
 ·obtain⟨s,n,la,na,ga,kn,dx,T,L,w,i,c,m,a,rfl,_⟩:=h
  rfl
 obtain⟨o,n,la,na,ga,kn,dx,Tb,L,wd,i,c,m,a,rfl,ho,N,hi,q⟩:=h;have nd:=WY.nd
 refine⟨_,au (aO (i:=4) nd rfl (Or.inl rfl) (aF gK (dY (dY (a6 0) rfl) rfl) (a6 1) (λ_ _=>rfl)))<|
  au (nT PassesOwn.never (cI qY (aF aN (a6 4) ak (λ_ _=>rfl)) (bf (aM aK (aM aK a7))) rfl) (
   au (aO (i:=3) nd rfl (Or.inl rfl) (jL (cI d8 (aF aN (a6 4) ak (λ_ _=>rfl)) aK (cP _)) (bK iQ (a6 3) (aF aN (a6 4) ak (λ_ _=>rfl))) (a6 2)))<|
   au (aO (i:=1) nd rfl (Or.inl rfl) (aF aN (a6 4) (uy uc ak) (λ_ _=>rfl)))<|
   aL (aO (i:=4) nd rfl (Or.inl rfl) (aF gK (dY (dY (a6 0) rfl) rfl) (a6 1) (λ_ _=>rfl)))))<|
  aL (bx (bf (aq (a6 1) (aq (a6 2) (aq (a6 3) a7))))),?_⟩
 obtain⟨r,hr0,_⟩:=wQ hi;obtain⟨as,t0,hla,hat,htr⟩:=A0 N hr0;obtain⟨iZ,hn⟩:=N.ob;refine⟨_,rfl,o,C,dx,_,_,rfl,ho,T.cl,T.qL,sW _ _ _,n,CN,iZ,_,_,rfl,hn,TN.cl,TN.qz,sS _ _ _,_,rfl,la,_,_,_,rfl,rfl,aG.of hla,hat,?_⟩
 refine⟨λz σ H'=>∃(i' m':Nat) (a':Nd) (t:Addr) (r:Raw),σ=[some (.ref o),some (.int (i':Nat)),some (.int (c:Nat)),some (.int (m':Nat)),some (.ref t)]/\Same H H'/\cj Tb i' a'/\eF a' c m'=eF a c m/\Tb[i']? = some r/\lX H' t r/\z=oh a',
  ⟨_,i,m,a,t0,r,rfl,Same.refl H,hi,rfl,hr0,htr,rfl⟩,?_⟩
 rintro z σ H' ⟨i',m',a',t,r',rfl,s1,hi',es,hr',ht',rfl⟩
 obtain⟨r2,hr2,hd,tl,ek,IE⟩:=wQ hi';rw[hr'] at hr2
 cases hr2;have htu:H' t=some (.tup (.str hd::tl.map kV)):=by have:=ht';unfold lX at this;rw[ek] at this;exact this
 refine⟨_,rfl,t,_,_,.str hd,rfl,rfl,a9.of htu,(by show dN (V.str hd::tl.map kV) ((0:Nat):Int)=_;exact gF rfl),aC,λt2 ig=>⟨t2,_,rfl,.inr (a9.of a8),rfl,rfl,_,rfl,?_⟩⟩;show if inV (.str hd) [.str "nest",.str "align"]=true then _ else _
 rw[IE];have s2:=s1.trans (ao ig (.tup [.str "nest",.str "align"]))
 have s12:=ao ig (.tup [.str "nest",.str "align"])
 have jw:=s12 _ _ ht'
 generalize upd H' t2 (.tup [.str "nest",.str "align"])=H2 at s2 s12 jw
 have N2:=N.mono s2;obtain⟨X0,hn2⟩:=N2.ob;have ho2:=s2 _ _ ho;have nxt:∀(j:Nat) (b:Nd) (m2:Nat),cj Tb j b->eF b c m2=eF a c m->oh b<oh a'->∃(Nn:St->Hp->Prop),(∀σ' H',Nn σ' H'->∃m',m'<oh a'/\∃(i' m'':Nat) (a':Nd) (t:Addr) (r:Raw),σ'=[some (.ref o),some (.int (i':Nat)),some (.int (c:Nat)),some (.int (m'':Nat)),some (.ref t)]/\Same H H'/\cj Tb i' a'/\eF a' c m''=eF a c m/\Tb[i']? = some r/\lX H' t r/\m'=oh a')/\∃(as:List Addr) (t3:Addr),H2 la=some (.lst (as.map V.ref))/\dN (as.map V.ref) ((j:Nat):Int)=some (.ref t3)/\Nn [some (.ref o),some (.int (j:Nat)),some (.int (c:Nat)),some (.int (m2:Nat)),some (.ref t3)] H2:=λj b m2 hj es2 hlt=>by
  obtain⟨rj,X1,_⟩:=wQ hj;obtain⟨as2,t3,IG,IH,wR⟩:=A0 N2 X1;exact⟨λσ' H'=>∃m',m'<oh a'/\∃(i' m'':Nat) (a':Nd) (t:Addr) (r:Raw),σ'=[some (.ref o),some (.int (i':Nat)),some (.int (c:Nat)),some (.int (m'':Nat)),some (.ref t)]/\Same H H'/\cj Tb i' a'/\eF a' c m''=eF a c m/\Tb[i']? = some r/\lX H' t r/\m'=oh a',λ_ _ z=>z,as2,t3,IG,IH,_,hlt,j,m2,b,t3,rj,rfl,s2,hj,es2,X1,wR,rfl⟩
 have fin:qK a'=true->∀t5,H2 t5=none->Q (.ref t5) (upd H2 t5 (.tup [.int (i':Nat),.int (c:Nat),.int (m':Nat)])):=λhc t5 A1=>by
  refine q t5 _ (s2.trans (ao A1 _)) (s2.free A1) ⟨i',?_,?_⟩
  ·rw[a8]
   show _=some (HO.tup [_,.int ((c:Nat):Int),.int (((eF a c m).2:Nat):Int)]);rw[<-es,Ji hc]
  ·show cj Tb i' (eF a c m).1
   rw[<-es,Ji hc];exact hi'
 cases a' with
 |nest k b=>
  obtain⟨j,e,hj⟩:=hi';rw[hr'] at e
  cases e;obtain⟨Nn,hN,as2,t3,h1,h2,h3⟩:=nxt j b (m'+k) hj es (by simp only[oh];omega);refine fu ⟨Nn,hN,?_⟩;refine⟨_,rfl,t,_,_,.str "nest",rfl,rfl,a9.of jw,rfl,rfl,_,rfl,cG ⋯ ⟨_,rfl,_,rfl,t,_,_,.int (k:Nat),rfl,rfl,a9.of jw,rfl,_,_,rfl,rfl,?_⟩⟩
  refine⟨_,rfl,_,rfl,t,_,_,.int (j:Nat),rfl,rfl,a9.of jw,rfl,?_⟩;refine⟨_,rfl,o,C,dx,_,_,rfl,ho2,T.cl,T.qL,sW _ _ _,n,CN,X0,_,_,rfl,hn2,TN.cl,TN.qz,sS _ _ _,_,rfl,la,_,_,_,rfl,rfl,aG.of h1,h2,?_⟩;have e:((m':Nat):Int)+((k:Nat):Int)=((m'+k:Nat):Int):=by omega
  show Nn [_,_,_,some (V.int (((m':Nat):Int)+((k:Nat):Int))),_] H2;rw[e];exact h3
 |align b=>
  obtain⟨j,e,hj⟩:=hi';rw[hr'] at e
  cases e;obtain⟨Nn,hN,as2,t3,h1,h2,h3⟩:=nxt j b c hj es (by simp only[oh];omega);refine fu ⟨Nn,hN,?_⟩;refine⟨_,rfl,t,_,_,.str "align",rfl,rfl,a9.of jw,rfl,rfl,_,rfl,aP ⋯ ⟨_,rfl,?_⟩⟩
  refine⟨_,rfl,_,rfl,t,_,_,.int (j:Nat),rfl,rfl,a9.of jw,rfl,?_⟩;exact⟨_,rfl,o,C,dx,_,_,rfl,ho2,T.cl,T.qL,sW _ _ _,n,CN,X0,_,_,rfl,hn2,TN.cl,TN.qz,sS _ _ _,_,rfl,la,_,_,_,rfl,rfl,aG.of h1,h2,h3⟩
 |text _=>exact gM ⟨_,rfl,_,rfl,_,rfl,aC,fin rfl⟩
 |brk=>exact gM ⟨_,rfl,_,rfl,_,rfl,aC,fin rfl⟩
 |beside _ _=>exact gM ⟨_,rfl,_,rfl,_,rfl,aC,fin rfl⟩
 |choice _ _=>exact gM ⟨_,rfl,_,rfl,_,rfl,aC,fin rfl⟩
inductive uT(CN C:Addr)(lvl:Bool)(vs:List V)(H:Hp)(Q:VK)(E':XK):Prop
 |mk (g:Gh) (Ks:List Ent) (i c m:Nat) (a:Nd) (z0:vs=[.ref g.s,.int (i:Nat),.int (c:Nat),.int (m:Nat)]) (z1:eO CN C H g Ks) (z2:cj g.T i a) (z3:fj a) (z4:(∀x∈zl0 g.w a c m,x∈g.U)) (z5:cw g.w a c m<=16000000) (z6:(lvl=true->Kn g.T Ks (bB a c m))) (z7:∀(d:Addr) (o:Obj) (E:Es) (bH:List Ent) (H':Hp),eO CN C H' g bH->(∀e∈Ks,e∈bH)->cB g.kn H H'->H' d=some (.d6 o (.dK (cL E)))->dI g.w [(a,m)] c E->E.length<=64->(lvl=true->bH=Ks/\Same H H'/\∀e∈Ks,jx g.T e (bB a c m)->E=e.E)->Q (.ref d) H'):uT CN C lvl vs H Q E'
inductive wU(CN C:Addr)(lvl:Bool)(vs:List V)(H:Hp)(Q:VK)(E':XK):Prop
 |mk (g:Gh) (Ks:List Ent) (b:Addr) (o:Obj) (B:Es) (q:Sq) (c i m:Nat) (a:Nd) (z0:vs=[.ref g.s,.ref b,.int (i:Nat),.int (m:Nat)]) (z1:eO CN C H g Ks) (z2:H b=some (.d6 o (.dK (cL B)))) (z3:dI g.w q c B) (z4:B.length<=64) (z5:cj g.T i a) (z6:fj a) (z7:cnt 1 (q++[(a,m)])<=63) (z8:(∀y∈B,(∀x∈zl0 g.w a y.1 m,x∈g.U)/\cw g.w a y.1 m<=16000000/\(lvl=true->Kn g.T Ks (bB a y.1 m)))) (z9:∀(d:Addr) (E:Es) (bH:List Ent) (H':Hp),eO CN C H' g bH->(∀e∈Ks,e∈bH)->cB g.kn H H'->H d=none->H' d=some (.dK (cL E))->dI g.w (q++[(a,m)]) c E->E.length<=64->(lvl=true->bH=Ks/\Same H H')->Q (.ref d) H'):wU CN C lvl vs H Q E'
abbrev lE:List Str:=["self","number","column","margin"]
theorem Cm:cQ ["self","number","column","margin","wanted","waiting","spot","missing"] lE (cg vY):=⟨rfl,rfl,rfl, ⋯,rfl, ⋯, ⋯⟩
theorem qM  {g:Gh} (S:eO CN C H g Ks)(s:Same H H'){t:Addr} (ht:gZ H' g.T t x):(∃e∈Ks,jx g.T e x/\iG H' g.kn (.ref t) (some (.ref e.d)))\/(¬Kn g.T Ks x/\iG H' g.kn (.ref t) none):=by
 obtain⟨i,h1,h2⟩:=ht;have h3:=iG.t (k:=nJ i x.2.1 x.2.2) (s _ _ S.kn) h1;rcases WX S (c:=x.2.1) (m:=x.2.2) h2 with⟨e,he,ha,hv⟩|⟨hk,hv⟩
 ·rw[hv] at h3;exact .inl ⟨e,he,ha,h3⟩
 ·rw[hv] at h3;exact .inr ⟨hk,h3⟩
theorem II  {IJ IL:Sp}(F:cA K "ends_of" "Search.ends_of" vY f fd)(T:kZ K mg C)(SP:MO P w K mg base C aB 1 fS sD "spot_of" lE (uR CN C))
  (MM:MO P w K mg base C aB 1 fM mD "missing_for" ["self","spot"] IJ) (WO:MO P w K mg base C aB 1 fW wD "worked_out" ["self","spot"] IL):aH P w K mg base aB 2 f fd lE (uT CN C true):=by
 refine F.cU Cm (λvs H Q E h=>?_) (λcdv A outer s H vs Q E hr h=>?_)
 ·obtain⟨g,Ks,i,c,m,a,rfl,_⟩:=h
  rfl
 obtain⟨g,Ks,i,c,m,a,rfl,S,hi,hsm,hU,hcw,hk,q⟩:=h;have nd:=Cm.nd;have hu1:=hr.units;have hu:(A.deeper (PyProof.Rows.envOfC "Search.ends_of" (cg vY) s.heap.objs.size f cdv)).units+1<cLine:=by omega
 refine⟨_,au (aO (i:=4) nd rfl (Or.inl rfl) (dU (a6 0) T.cl SP.m SP.ok hr SP.b .nil aU (aq (a6 1) (aq (a6 2) (aq (a6 3) a7)))))<|
  au (aO (i:=5) nd rfl (Or.inl rfl) (cX (aq (a6 4) a7)))<|
  au (nT PassesOwn.never (nY (a6 5) (λ_=>rfl)) (
   au (aO (i:=6) nd rfl (Or.inl rfl) (aF gK (a6 5) (uy uc ak) (λ_ _=>rfl)))<|
   au (aO (i:=7) nd rfl (Or.inl rfl) (jL (jZ (Gf hu (a6 6) (dY (a6 0) rfl))) (cX a7) (dU (a6 0) T.cl MM.m MM.ok hr MM.b .nil aU (aq (a6 6) a7))))<|
   au (cN (nY (a6 7) (λ_=>rfl)) (au (fZ (gG plainAttrs_list slot_list_extend type_list_extend qZ (a6 5) (aq (a6 7) a7))) (aL FJ)) cW)<|
   au (fZ (uE plainAttrs_list slot_list_pop type_list_pop uq (a6 5)))<|
   aL (cN (jZ (yR hu (a6 6) (dY (a6 0) rfl))) (aL (yS hu (dY (a6 0) rfl) (a6 6) (Bq (dU (a6 0) T.cl WO.m WO.ok hr WO.b .nil aU (aq (a6 6) a7))) rfl)) cW)))<|
  aL (bx (qm hu (dY (a6 0) rfl) (a6 4) (λ_ _=>rfl))),?_⟩
 obtain⟨e0,Cp,ha0⟩:=hk rfl;obtain⟨dx,ho⟩:=S.ob;refine⟨_,rfl,g.s,dx,_,rfl,ho,gY _ _ _ ⋯ ⋯ ⋯,_,rfl,_,rfl,_,rfl,g.s,g.n,g.la,g.na,g.ga,g.kn,dx,g.T,g.L,g.w,i,c,m,a,rfl,ho,S.no,hi,λt H1 s1 n1 ht=>?_⟩;refine⟨_,rfl,aC,λW hW=>?_⟩;have s2:=ao hW (.lst [.ref t]);have nW:H W=none:=s1.free hW
 refine⟨λz σ H'=>∃(v6 v7:Option V) (ts:List V),σ=[some (.ref g.s),some (.int (i:Nat)),some (.int (c:Nat)),some (.int (m:Nat)),some (.ref t),some (.ref W),v6,v7]/\((z=1/\ts=[.ref t])\/(z=0/\ts=[]))/\H' W=some (.lst ts)/\Same H H'/\gZ H' g.T t (bB a c m),
  ⟨1,_,_,_,rfl,.inl ⟨rfl,rfl⟩,a8,s1.trans s2,ht.mono (.of s2)⟩,?_⟩
 rintro z σ H' ⟨v6,v7,ts,rfl,hz,hw,s3,jw⟩
 have Jp:∀H4,Same H H4->gZ H4 g.T t (bB a c m)->iG H4 g.kn (.ref t) (some (.ref e0.d)):=λH4 s4 wR=>by
  rcases qM S s4 wR with⟨e,he,ha,hg⟩|⟨hn,_⟩
  ·have:=Jo S he Cp ha ha0
   rw[this] at hg;exact hg
  ·exact absurd ⟨e0,Cp,ha0⟩ hn
 refine⟨_,rfl,_,.inl ⟨_,aG.of hw,rfl⟩,?_⟩;rcases hz with⟨rfl,rfl⟩|⟨rfl,rfl⟩
 ·refine cG rfl ?_
  refine⟨λσ' fQ=>∃z',z'<1/\∃(v6 v7:Option V) (ts:List V),σ'=[some (.ref g.s),some (.int (i:Nat)),some (.int (c:Nat)),some (.int (m:Nat)),some (.ref t),some (.ref W),v6,v7]/\((z'=1/\ts=[.ref t])\/(z'=0/\ts=[]))/\fQ W=some (.lst ts)/\Same H fQ/\gZ fQ g.T t (bB a c m),λ_ _ z=>z,?_⟩;refine⟨_,rfl,_,rfl,W,_,_,.ref t,rfl,rfl,aG.of hw,rfl,?_⟩;refine⟨_,rfl,_,rfl,g.s,C,dx,_,_,rfl,s3 _ _ ho,T.cl,T.lu,mj _ _ _,g.kn,_,rfl,Jp _ s3 jw,_,rfl,fu ⟨aC,λM hM=>?_⟩⟩;have s4:=ao hM (.lst []);refine⟨_,rfl,_,.inl ⟨_,aG.of a8,rfl⟩,aP (by intro z;cases z) ?_⟩;have Cq:=s4 _ _ hw;have Jq:=(s3.trans s4) _ _ ho;have wR:=jw.mono (.of s4);have X2:=s3.trans s4
  generalize upd H' M (.lst [])=H4 at s4 Cq Jq wR X2
  have nWs:W≠g.s:=λz=>by rw[z,ho] at nW;cases nW
  refine⟨_,rfl,.inl ⟨rfl,_,aG.of Cq⟩,W,_,_,rfl,rfl,Cq,rfl,?_⟩;have s5:Same H (upd H4 W (.lst [])):=k6 X2 nW _;have A1:gZ (upd H4 W (.lst [])) g.T t (bB a c m):=wR.mono (dX Cq);refine⟨_,rfl,_,rfl,g.s,C,dx,_,_,rfl,s5 _ _ ho,T.cl,T.lu,mj _ _ _,g.kn,_,rfl,Jp _ s5 A1,_,rfl,aP (by intro z;cases z) ?_⟩;exact⟨0,by omega,_,_,[],rfl,.inr ⟨rfl,rfl⟩,a8,s5,A1⟩
 ·refine aP (by intro z;cases z) ?_
  have ok0:=S.ok e0 Cp;obtain⟨a0,h1,h2,h3⟩:=ok0.at_;have e1:a0=(eF a c m).1:=cj.one h1 ha0.1;have e2:e0.c=c:=ha0.2.1;have e3:e0.m=(eF a c m).2:=ha0.2.2;rw[e1,e2,e3] at h3
  refine⟨_,rfl,g.s,C,dx,_,_,rfl,s3 _ _ ho,T.cl,T.lu,mj _ _ _,_,rfl,g.kn,_,rfl,Jp _ s3 jw,?_⟩;exact q e0.d e0.o e0.E Ks H' (S.mono s3) (λe he=>he) (cB.of s3) (s3 _ _ ok0.d6) (Cj a c m h3) ok0.len (λ_=>⟨rfl,s3,λe he hx=>by rw[Jo S he Cp hx ha0]⟩)
abbrev uU:List Str:=["self","begins","number","margin"]
theorem X3:cQ ["self","begins","number","margin","ends","column"] uU (cg Bw):=⟨rfl,rfl,rfl, ⋯,rfl, ⋯, ⋯⟩
structure IM(CN C:Addr)(lvl:Bool)(H:Hp)(g:Gh)(Ks:List Ent)(B:Es)(q:Sq)(c m:Nat)(a:Nd)(p:Addr)(i:Nat)(H':Hp)(bH:List Ent)(D:Es):Prop where
 at_:eO CN C H' g bH
 sub:∀e∈Ks,e∈bH
 but:cB g.kn H H'
 ends:H' p=some (.dK (cL D))
 nodup:(D.map (·.1)).Nodup
 sound:∀x∈D,∃y∈B,∃Ey,dI g.w [(a,m)] y.1 Ey/\∃z∈Ey,x=(z.1,y.2+z.2)
 qH:∀y∈B.take i,∃Ey,dI g.w [(a,m)] y.1 Ey/\∀z∈Ey,∃x∈D,x.1=z.1/\x.2<=y.2+z.2
 same:lvl=true->bH=Ks/\Same H H'
theorem X4{kE:Nat}{lvl:Bool}{fU:Addr} (hk1:1<=kE)(F:cA K "ends_behind" "Search.ends_behind" Bw f fd)(T:kZ K mg C)(EN:MO P w K mg base C aB kE fE eD "ends_of" lE (uT CN C lvl))
  (GA:aH P w K mg base aB 1 fA aD ["ends","more","spent"] zT) (bA:Binds K aD ["ends","more","spent"] []) (kA:keepIn K (.ref fA)=true) (mA:mg "add_ends"=some (.ref fA))
  (GU:aH P w K mg base aB 1 fU uD ["ends"] zU) (bU:Binds K uD ["ends"] []) (kU:keepIn K (.ref fU)=true) (mU:mg "undominated"=some (.ref fU)):aH P w K mg base aB (kE+1) f fd uU (wU CN C lvl):=by
 refine F.cU X3 (λvs H Q E h=>?_) (λcdv A outer s H vs Q E hr h=>?_)
 ·obtain⟨g,Ks,b,o,B,q,c,i,m,a,rfl,_⟩:=h
  rfl
 obtain⟨g,Ks,b,o,B,qs,c,i,m,a,rfl,S,hb,hB,hBl,hi,hsm,hc,hU,q⟩:=h;have nd:=X3.nd;have hu1:=hr.units;have hu:(A.deeper (PyProof.Rows.envOfC "Search.ends_behind" (cg Bw) s.heap.objs.size f cdv)).units+1<cLine:=by omega
 refine⟨_,au (aO (i:=4) nd rfl (Or.inl rfl) Uz)<|
  au (lK PassesOwn.never rfl (Gj (a6 1)) (jX (i:=5) nd rfl (Or.inl rfl)) (
   aL (fZ (c9 GA (hr.mono hk1) rfl mA kA bA .nil aU (aq (a6 4) (dw (dU (a6 0) T.cl EN.m EN.ok hr EN.b .nil aU (aq (a6 2) (aq (a6 5) (aq (a6 3) a7)))) (cF (qm hu (a6 1) (a6 5) (λ_ _=>rfl)) a7)))))))<|
  aL (bx (c9 GU (hr.mono hk1) rfl mU kU bU .nil aU (aq (a6 4) a7))),?_⟩
 intro p hp;have s0:=ao hp (.dK []);have hkn:=S.kn;have nbp:b≠p:=c6 hb hp;have Jr:b≠g.kn:=cR hb hkn (by intro z;cases z);have wV:p≠g.kn:=λz=>by rw[z,hkn] at hp;cases hp
 have hb0:=s0 _ _ hb;have few:∀D:Es,(D.map (·.1)).Nodup->(∀x∈D,∃y∈B,∃Ey,dI g.w [(a,m)] y.1 Ey/\∃z∈Ey,x=(z.1,y.2+z.2))->D.length<=63:=λD hn hs=>by
  have:=WM hn (R:=esl [c] (qs++[(a,m)])) λk hk=>by
   obtain⟨x,hx,rfl⟩:=List.mem_map.mp hk;obtain⟨y,hy,Ey,hE,z,hz,rfl⟩:=hs x hx;exact WQ hB hy hE (z:=z) hz
  rw[length_map,Wo] at this
  exact le_trans this hc
 refine⟨_,rfl,b,o,_,rfl,hb0,Uy (a:=b) (o:=o) (kvs:=cL B) (λj σ H2=>∃(v5:Option V) (bH:List Ent) (D:Es),σ=[some (.ref g.s),some (.ref b),some (.int (i:Nat)),some (.int (m:Nat)),some (.ref p),v5]/\IM CN C lvl H g Ks B qs c m a p j H2 bH D)
  ⟨_,Ks,[],rfl,S.mono s0,λe he=>he,cB.of s0,a8,by simp,λx hx=>(by cases hx),λy hy=>(by rw[take_zero] at hy;cases hy),λ_=>⟨rfl,s0⟩⟩ (λj σ H2 _ ⟨_,_,_,_,I⟩=>I.but _ _ hb Jr) ?_ ?_⟩
 ·rintro j kv σ H2 hkv ⟨v5,bH,D,rfl,I⟩
  obtain⟨cc,k,hck,rfl⟩:=Je hkv;have hmem:=mem_of_getElem? hck;obtain⟨u1,u2,u3⟩:=hU _ hmem;obtain⟨dx,ho⟩:=I.at_.ob;refine⟨_,rfl,_,rfl,g.s,dx,_,rfl,ho,gY _ _ _ ⋯ ⋯ ⋯,_,rfl,_,rfl,_,rfl,?_⟩;refine⟨g,bH,i,cc,m,a,rfl,I.at_,hi,hsm,u1,u2,λhl=>by rw[(I.same hl).1];exact u3 hl,λd od Ed pB H3 S3 X5 b3 gw uV hl3 sm3=>?_⟩;have hb3:H3 b=some (.d6 o (.dK (cL B))):=b3 _ _ (I.but _ _ hb Jr) Jr;have hp3:H3 p=some (.dK (cL D)):=b3 _ _ I.ends wV;have hv:gO (cL B) (.inl ((cc:Nat):Int))=some (V.int ((k:Nat):Int)):=by rw[zQ,Jg hB.nodup hmem];rfl
  refine⟨_,rfl,_,rfl,b,_,rfl,by rw[<-hv];exact .inl ⟨_,_,.inr ⟨o,hb3⟩,rfl,rfl⟩,?_⟩;have fD:=few D I.nodup I.sound;refine⟨p,d,od,D,Ed,k,rfl,hp3,gw,I.nodup,uV.nodup,by omega,λD' H4 A4 Js b4=>?_⟩;have Jt:cB p H3 H4:=b4;have zh2:=S3.kn;have S4:eO CN C H4 g pB:=by
   obtain⟨⟨lZ,h1⟩,h2,h3,h4,h5,h6,h7⟩:=S3;obtain⟨⟨iZ,g1⟩,⟨as,g2,g3⟩,g4,g5,g6,g7⟩:=h2;have nn:∀ {x:Addr} {ob:HO},H3 x=some ob->(∀E,ob≠.dK E)->H4 x=some ob:=λ{x ob} e hne=>Jt _ _ e (λz=>by rw[z,hp3] at e;exact hne _ (Option.some.inj e).symm)
   have tp:bQ H3 H4:=λx xs e=>nn e (by intro E z;cases z)
   exact⟨⟨lZ,nn h1 (by intro E z;cases z)⟩,⟨⟨iZ,nn g1 (by intro E z;cases z)⟩,⟨as,nn g2 (by intro E z;cases z),g3.mono tp⟩,nn g4 (by intro E z;cases z),nn g5 (by intro E z;cases z),g6,g7⟩,nn h3 (by intro E z;cases z),h4,λe he=>⟨(h5 e he).at_,nn (h5 e he).d6 (by intro E z;cases z),(h5 e he).len⟩,h6,h7⟩
  refine⟨_,pB,D',rfl,S4,λe he=>X5 e (I.sub e he),λx ob e hx=>Jt _ _ (b3 _ _ (I.but _ _ e hx) hx) (c6 e hp),Js,A4.nodup,λx hx=>?_,λy hy=>?_,λhl=>⟨(sm3 hl).1.trans (I.same hl).1,λx ob e=>Jt _ _ ((sm3 hl).2.1 _ _ ((I.same hl).2 _ _ e)) (c6 e hp)⟩⟩
  ·rcases A4.sound x hx with z|⟨y,hy,e⟩
   ·exact I.sound x z
   ·exact⟨(cc,k),hmem,Ed,uV,y,hy,e⟩
  ·rw[zk3 hck] at hy
   rcases List.mem_append.mp hy with z|z
   ·obtain⟨Ey,e1,e2⟩:=I.qH y z
    refine⟨Ey,e1,λv hv=>?_⟩;obtain⟨x,hx,e3,e4⟩:=e2 v hv;obtain⟨x',hx',e5,e6⟩:=A4.old x hx;exact⟨x',hx',e5.trans e3,le_trans e6 e4⟩
   ·rw[List.mem_singleton.mp z]
    exact⟨Ed,uV,λv hv=>A4.new v hv⟩
 ·rintro σ H2 ⟨v5,bH,D,rfl,I⟩
  have hcl:=I.qH;rw[zR,take_length] at hcl
  have fD:=few D I.nodup I.sound;refine⟨_,rfl,p,D,rfl,I.ends,I.nodup,by omega,λp2 E2 H3 U3 l3 s3 n3 e3=>?_⟩
  exact q p2 E2 bH H3 (I.at_.mono s3) I.sub (λx ob e hx=>s3 _ _ (I.but _ _ e hx)) (by
   cases z:H p2 with
   |none=>rfl
   |some ob=>
    by_cases hx:p2=g.kn
    ·have:=I.at_.kn
     rw[<-hx,n3] at this;cases this
    ·have:=I.but _ _ z hx
     rw[n3] at this;cases this) e3 (hB.HK I.sound hcl U3) l3 (λhl=>⟨(I.same hl).1,(I.same hl).2.trans s3⟩)
structure g9(T:List Raw)(Ks:List Ent)(need ms:List cV):Prop where
 sub:ms.Sublist need
 no:∀x∈ms,¬Kn T Ks x
 all:∀x∈need,Kn T Ks x\/x∈ms
theorem g9.nil  : g9 T Ks [] []:=⟨List.Sublist.slnil,λx hx=>(by cases hx),λx hx=>(by cases hx)⟩
theorem g9.skip    (M:g9 T Ks need ms)(h:Kn T Ks x):g9 T Ks (need++[x]) ms:=
 ⟨M.sub.trans (List.sublist_append_left _ _),M.no,λy hy=>by
  rcases List.mem_append.mp hy with z|z
  ·exact M.all y z
  ·rw[List.mem_singleton.mp z];exact .inl h⟩
theorem g9.add    (M:g9 T Ks need ms)(h:¬Kn T Ks x):g9 T Ks (need++[x]) (ms++[x]):=
 ⟨M.sub.append (List.Sublist.refl _),λy hy=>by
  rcases List.mem_append.mp hy with z|z
  ·exact M.no y z
  ·rw[List.mem_singleton.mp z];exact h,λy hy=>by
  rcases List.mem_append.mp hy with z|z
  ·rcases M.all y z with v|v
   ·exact .inl v
   ·exact .inr (mem_append_left _ v)
  ·exact .inr (mem_append_right _ z)⟩
def sX(T:List Raw)(Ks:List Ent)(x:cV)(ms:List cV):Prop:=match x.1 with
 |.choice a b=>if(zk4 (.choice a b)).isSome=true then ms=[] else g9 T Ks [bB a x.2.1 x.2.2,bB b x.2.1 x.2.2] ms
 |.beside a b=>if(zk4 (.beside a b)).isSome=true then ms=[] else(¬Kn T Ks (bB a x.2.1 x.2.2)/\g9 T Ks [bB a x.2.1 x.2.2] ms)\/∃e∈Ks,jx T e (bB a x.2.1 x.2.2)/\g9 T Ks (e.E.map λy=>bB b y.1 x.2.2) ms
 |_=>ms=[]
theorem wW{α β:Type}{R:α->β->Prop}{f:α->V}:∀ {as:List α} {bs:List β} {i:Nat} {v:V},Paired R as bs->(as.map f)[i]? = some v->∃a b,v=f a/\bs[i]? = some b/\R a b
 |_,_,_,_,.nil,e=>by simp at e
 |_,_,0,_,.cons r _,e=>by simp at e;subst e;exact⟨_,_,rfl,rfl,r⟩
 |_,_,i+1,v,.cons _ t,e=>by
  obtain⟨a,b,h1,h2,h3⟩:=wW (i:=i) (v:=v) t (by simpa using e);exact⟨a,b,h1,by simpa using h2,h3⟩
theorem IP   (h:E[i]? = some (c,k)):(E.map λy=>bB b y.1 m)[i]? = some (bB b c m):=by rw[getElem?_map,h];rfl
inductive Cr(CN C:Addr)(vs:List V)(H:Hp)(Q:VK)(E':XK):Prop
 |mk (g:Gh) (Ks:List Ent) (t:Addr) (x:cV) (z0:vs=[.ref g.s,.ref t]) (z1:eO CN C H g Ks) (z2:gZ H g.T t x) (z3:qK x.1=true) (z4:∀(l:Addr) (ts:List Addr) (ms:List cV) (H':Hp),Same H H'->H l=none->H' l=some (.lst (ts.map V.ref))->Paired (gZ H' g.T) ts ms->sX g.T Ks x ms->Q (.ref l) H'):Cr CN C vs H Q E'
theorem X6:cQ ["self","spot","number","column","margin","node","needed"] ["self","spot"] (cg Bv):=⟨rfl,rfl,rfl, ⋯,rfl, ⋯, ⋯⟩
theorem X7  {p:Addr}  (N:gH CN H p la na ga T L)  (h:cj T i a):dN (L.map zl6) ((i:Nat):Int)=some (zl6 (zk4 a)):=gF (by rw[getElem?_map,h.len N.wf];rfl)
theorem IQ  (F:cA K "missing_for" "Search.missing_for" Bv f fd)(T:kZ K mg C)(TN:k9 K mg CN)(SP:MO P w K mg base C aB 1 fS sD "spot_of" lE (uR CN C)):aH P w K mg base aB 2 f fd ["self","spot"] (Cr CN C):=by
 refine F.cU X6 (λvs H Q E h=>?_) (λcdv A outer s H vs Q E hr h=>?_)
 ·obtain⟨g,Ks,t,x,rfl,_⟩:=h
  rfl
 obtain⟨g,Ks,t,x,rfl,S,ht,hco,q⟩:=h;have nd:=X6.nd;have hu1:=hr.units;have hu:(A.deeper (PyProof.Rows.envOfC "Search.missing_for" (cg Bv) s.heap.objs.size f cdv)).units+1<cLine:=by omega
 refine⟨_,au (aO (i:=2) nd rfl (Or.inl rfl) (aF aN (a6 1) ak (λ_ _=>rfl)))<|
  au (aO (i:=3) nd rfl (Or.inl rfl) (aF aN (a6 1) ak (λ_ _=>rfl)))<|
  au (aO (i:=4) nd rfl (Or.inr rfl) (aF aN (a6 1) ak (λ_ _=>rfl)))<|
  au (aO (i:=5) nd rfl (Or.inr rfl) (aF gK (dY (dY (a6 0) rfl) rfl) (a6 2) (λ_ _=>rfl)))<|
  au (cN (PW.vN (vP (jZ (Fy (aF gK (dY (dY (a6 0) rfl) rfl) (a6 2) (λ_ _=>rfl)))) (vO (cI d8 (aF aN (a6 5) ak (λ_ _=>rfl)) aK (cP _))))) (aL (bx (cX a7))) cW)<|
  au (aO (i:=6) nd rfl (Or.inl rfl) (cX (dw (dU (a6 0) T.cl SP.m SP.ok hr SP.b .nil aU (cF (aF aN (a6 5) ak (λ_ _=>rfl)) (aq (a6 3) (aq (a6 4) a7)))) a7)))<|
  au (cN (cI d8 (aF aN (a6 5) ak (λ_ _=>rfl)) aK (cP _)) (aL (fZ (gG plainAttrs_list PySem.F.slot_list_append PySem.F.type_list_append ju (a6 6) (dw (dU (a6 0) T.cl SP.m SP.ok hr SP.b .nil aU (cF (aF aN (a6 5) ak (λ_ _=>rfl)) (aq (a6 3) (aq (a6 4) a7)))) a7))))
   (aL (cN (jZ (Gf hu (aF gK (a6 6) ak (λ_ _=>rfl)) (dY (a6 0) rfl))) (aL (TY (i:=6) (cl:=[("self",s.heap.objs.size+1),("node",s.heap.objs.size+3),("margin",s.heap.objs.size+2)]) (ys:=["self","node","margin"]) (js:=[0,5,4]) nd rfl (Or.inl rfl) rfl (Fq rfl ⟨rfl,rfl,rfl,trivial⟩ (by decide) rfl ⋯ rfl ⋯ rfl ⟨⟨rfl,.inl rfl,⟨_,rfl⟩,.inl rfl⟩,⟨rfl,.inl rfl,⟨_,rfl⟩,.inl rfl⟩,⟨rfl,.inl rfl,⟨_,rfl⟩,.inl rfl⟩,trivial⟩)
     (Gj (qm hu (dY (a6 0) rfl) (aF gK (a6 6) ak (λ_ _=>rfl)) (λ_ _=>rfl))) (λ_ _ _ _=>uw)
     (λ_ _ _ _=>dU (a6 1) T.cl SP.m SP.ok hr SP.b .nil aU (cF (aF (show vH _ (um K) from aN) (a6 2) ak (λ_ _=>rfl)) (aq (a6 0) (aq (a6 3) a7)))))) cW)))<|
  aL (bx (vU (cl:=[("self",s.heap.objs.size+1)]) (ys:=["self"]) (js:=[0]) rfl (Fq rfl ⟨rfl,trivial⟩ (by decide) rfl ⋯ rfl ⋯ rfl ⟨⟨rfl,.inl rfl,⟨_,rfl⟩,.inl rfl⟩,trivial⟩)
   (nU (a6 6)) (λ_ _ _ _=>vx (jZ (yR hu (a6 0) (show QE _ _ (Rt K (jB 1) "known") from dY (a6 1) rfl)))) (λ_ _ _ _=>a6 0))),?_⟩
 obtain⟨a,c,m⟩:=x;obtain⟨i,hti,hi⟩:=ht;have hi:cj g.T i a:=hi;obtain⟨dx,ho⟩:=S.ob;obtain⟨iZ,hn⟩:=S.no.ob;obtain⟨r,hr0,hd,tl,ek,_⟩:=wQ hi;obtain⟨as,t0,hla,hat,htr⟩:=A0 S.no hr0;have htu:H t0=some (.tup (.str hd::tl.map kV)):=by have:=htr;unfold lX at this;rw[ek] at this;exact this
 have hlen:=X7 S.no hi;refine⟨_,rfl,t,_,_,.int (i:Nat),rfl,rfl,a9.of hti,rfl,_,rfl,t,_,_,.int (c:Nat),rfl,rfl,a9.of hti,rfl,_,rfl,t,_,_,.int (m:Nat),rfl,rfl,a9.of hti,rfl,?_⟩;refine⟨_,rfl,g.s,C,dx,_,_,rfl,ho,T.cl,T.qL,sW _ _ _,g.n,CN,iZ,_,_,rfl,hn,TN.cl,TN.qz,sS _ _ _,_,rfl,g.la,_,_,_,rfl,rfl,aG.of hla,hat,?_⟩;refine⟨_,rfl,g.s,C,dx,_,_,rfl,ho,T.cl,T.qL,sW _ _ _,g.n,CN,iZ,_,_,rfl,hn,TN.cl,TN.p9,qy _ _ _,_,rfl,g.ga,_,_,_,rfl,rfl,aG.of S.no.le,hlen,_,rfl,?_⟩;show if(!decide (zl6 (zk4 a)=.non))=true then _ else _
 have none_:sX g.T Ks (a,c,m) []->∀l,H l=none->Q (.ref l) (upd H l (.lst [])):=λhm l hl=>q l [] [] _ (ao hl _) hl a8 .nil hm
 have flat:∀k,zk4 a=some k->sX g.T Ks (a,c,m) []:=λk hk=>by
  cases a with
  |choice a b=>show if _ then _ else _;rw[hk];rfl
  |beside a b=>show if _ then _ else _;rw[hk];rfl
  |_=>rfl
 cases hnl:zk4 a with
 |some k=>exact cG (by show(!decide (V.int (k:Nat)=V.non))=true;rw[decide_eq_false (λz=>by cases z)];rfl) (fu ⟨aC,none_ (flat k hnl)⟩)
 |none=>
 refine aP (by show ¬(!decide (V.non=V.non))=true;decide) ?_;refine⟨_,rfl,t0,_,_,.str hd,rfl,rfl,a9.of htu,(by show dN (V.str hd::tl.map kV) ((0:Nat):Int)=_;exact gF rfl),rfl,_,rfl,?_⟩;cases a with
 |text n=>cases hnl
 |nest _ _=>cases hco
 |align _=>cases hco
 |brk=>
  have hi:g.T[i]? = some .brk:=hi;rw[hr0] at hi
  cases hi;cases ek;exact cG ⋯ ⟨aC,none_ rfl⟩
 |choice a b=>
  obtain⟨i1,i2,e,h1,h2⟩:=hi;rw[hr0] at e
  cases e;cases ek;refine aP ⋯ ?_
  have fin:∀ms,g9 g.T Ks [bB a c m,bB b c m] ms->sX g.T Ks (Nd.choice a b,c,m) ms:=λms hm=>by
   show if(zk4 (.choice a b)).isSome=true then _ else _
   rw[hnl,if_neg (by decide:¬((none:Option Nat).isSome=true))];exact hm
  refine⟨_,rfl,g.s,dx,_,rfl,ho,gY _ _ _ ⋯ ⋯ ⋯,_,rfl,t0,_,_,.int (i1:Nat),rfl,rfl,a9.of htu,rfl,_,rfl,_,rfl,?_⟩;refine⟨g.s,g.n,g.la,g.na,g.ga,g.kn,dx,g.T,g.L,g.w,i1,c,m,a,rfl,ho,S.no,h1,λu1 H1 s1 n1 hu1=>⟨aC,λl hl=>?_⟩⟩;have s2:=s1.trans (ao hl (.lst [.ref u1]));have nl:H l=none:=s1.free hl;have el:(upd H1 l (.lst [.ref u1])) l=some (.lst [.ref u1]):=a8;have hu2:gZ (upd H1 l (.lst [.ref u1])) g.T u1 (bB a c m):=hu1.mono (.of (ao hl _))
  generalize upd H1 l (.lst [.ref u1])=H2 at s2 el hu2
  refine⟨_,rfl,t0,_,_,.str "choice",rfl,rfl,a9.of (s2 _ _ htu),rfl,rfl,_,rfl,?_⟩
  refine cG ⋯ ?_
  have ho2:=s2 _ _ ho;refine⟨_,rfl,.inl ⟨rfl,_,aG.of el⟩,_,rfl,g.s,dx,_,rfl,ho2,gY _ _ _ ⋯ ⋯ ⋯,_,rfl,t0,_,_,.int (i2:Nat),rfl,rfl,a9.of (s2 _ _ htu),rfl,_,rfl,_,rfl,?_⟩;refine⟨g.s,g.n,g.la,g.na,g.ga,g.kn,dx,g.T,g.L,g.w,i2,c,m,b,rfl,ho2,S.no.mono s2,h2,λu2 H3 s3 n3 m8=>?_⟩;have el3:=s3 _ _ el;refine⟨l,_,_,rfl,rfl,el3,lt_of_lt_of_le (show 1<16000001 by decide) (d4 (by omega)),?_⟩;have s4:Same H (upd H3 l (.lst ([.ref u1]++[.ref u2]))):=k6 (s2.trans s3) nl _;have pC:(upd H3 l (.lst ([.ref u1]++[.ref u2]))) l=some (.lst ([u1,u2].map V.ref)):=a8;have P4:Paired (gZ (upd H3 l (.lst ([.ref u1]++[.ref u2]))) g.T) [u1,u2] [bB a c m,bB b c m]:=.cons ((hu2.mono (.of s3)).mono (dX el3)) (.cons (m8.mono (dX el3)) .nil)
  generalize upd H3 l (.lst ([.ref u1]++[.ref u2]))=H4 at s4 pC P4
  have X8:([bB a c m,bB b c m]:List cV).length<=64:=by simp
  refine⟨_,rfl,l,rfl,⟨_,aG.of pC⟩,λD hD=>Ge (K:=K) (a:=l) (xs:=([u1,u2]).map V.ref) (λj H6 ys=>∃(gQ:List Addr) (ms:List cV),ys=gQ.map V.ref/\H6 D=some (.lst ys)/\Paired (gZ H6 g.T) gQ ms/\cB D (upd H4 D (.lst [])) H6/\g9 g.T Ks (([bB a c m,bB b c m]).take j) ms)
   ⟨[],[],rfl,a8,.nil,cB.refl,by rw[take_zero];exact g9.nil⟩ (λj H6 ys _ ⟨_,_,_,_,_,b,_⟩=>aG.of (b _ _ (by rw[aJ (c6 pC hD)];exact pC) (c6 pC hD))) (λj v H6 ys hv ⟨gQ,ms,ey,e6,P6,b6,M6⟩=>?_) (λH6 ys ⟨gQ,ms,ey,e6,P6,b6,M6⟩=>?_)⟩
  ·obtain⟨tj,xj,rfl,sY,jj⟩:=wW P4 hv
   have nD:H D=none:=s4.free hD;have s6:Same H H6:=λb ob e=>b6 _ _ ((ao hD _) _ _ (s4 _ _ e)) (c6 e nD)
   have t6:bQ H4 H6:=λb xs e=>b6 _ _ ((ao hD _) _ _ e) (c6 e hD)
   refine⟨_,rfl,_,rfl,g.s,C,dx,_,_,rfl,s6 _ _ ho,T.cl,T.lu,mj _ _ _,?_⟩;have hml:=M6.1.length_le;rw[length_take] at hml
   have hpl:=Paired.length P6;rcases qM S s6 (jj.mono t6) with⟨e,he,ha,hg⟩|⟨hn,hg⟩
   ·exact⟨g.kn,_,rfl,hg,_,rfl,aP (by intro z;cases z) ⟨gQ,ms,ey,e6,P6,b6,by rw[zk3 sY];exact M6.skip ⟨e,he,ha⟩⟩⟩
   ·refine⟨g.kn,_,rfl,hg,_,rfl,cG rfl ⟨_,rfl,e6,?_,gQ++[tj],ms++[xj],by rw[ey,map_append];rfl,a8,iU (Paired.gJ P6 λ_ _ z=>z.mono (dX e6)) (.cons ((jj.mono t6).mono (dX e6)) .nil),b6.trans qJ,by rw[zk3 sY];exact M6.add hn⟩⟩
    rw[ey];exact lt_of_lt_of_le (show(gQ.map V.ref).length<16000001 by rw[length_map,hpl];omega) (d4 (by omega))
  ·have nD:H D=none:=s4.free hD
   have s6:Same H H6:=λb ob e=>b6 _ _ ((ao hD _) _ _ (s4 _ _ e)) (c6 e nD)
   rw[length_map,Paired.length P4,take_length] at M6
   exact q D gQ ms H6 s6 nD (by rw[e6,ey]) P6 (fin ms M6)
 |beside a b=>
  obtain⟨i1,i2,e,h1,h2⟩:=hi;rw[hr0] at e
  cases e;cases ek;refine aP ⋯ ?_
  have fin:∀ms,((¬Kn g.T Ks (bB a c m)/\g9 g.T Ks [bB a c m] ms)\/∃e∈Ks,jx g.T e (bB a c m)/\g9 g.T Ks (e.E.map λy=>bB b y.1 m) ms)->sX g.T Ks (Nd.beside a b,c,m) ms:=λms hm=>by
   show if(zk4 (.beside a b)).isSome=true then _ else _
   rw[hnl,if_neg (by decide:¬((none:Option Nat).isSome=true))];exact hm
  refine⟨_,rfl,g.s,dx,_,rfl,ho,gY _ _ _ ⋯ ⋯ ⋯,_,rfl,t0,_,_,.int (i1:Nat),rfl,rfl,a9.of htu,rfl,_,rfl,_,rfl,?_⟩;refine⟨g.s,g.n,g.la,g.na,g.ga,g.kn,dx,g.T,g.L,g.w,i1,c,m,a,rfl,ho,S.no,h1,λu1 H1 s1 n1 hu1=>⟨aC,λl hl=>?_⟩⟩;have s2:=s1.trans (ao hl (.lst [.ref u1]));have nl:H l=none:=s1.free hl;have el:(upd H1 l (.lst [.ref u1])) l=some (.lst [.ref u1]):=a8;have hu2:gZ (upd H1 l (.lst [.ref u1])) g.T u1 (bB a c m):=hu1.mono (.of (ao hl _))
  generalize upd H1 l (.lst [.ref u1])=H2 at s2 el hu2
  refine⟨_,rfl,t0,_,_,.str "beside",rfl,rfl,a9.of (s2 _ _ htu),rfl,rfl,_,rfl,?_⟩
  refine aP ⋯ ?_
  have ho2:=s2 _ _ ho;refine⟨_,rfl,l,_,_,.ref u1,rfl,rfl,aG.of el,rfl,_,rfl,g.s,C,dx,_,_,rfl,ho2,T.cl,T.lu,mj _ _ _,?_⟩;rcases qM S s2 hu2 with⟨e,he,Cu,hg⟩|⟨hn,hg⟩
  ·refine⟨g.kn,_,rfl,hg,_,rfl,cG rfl ?_⟩
   have ok0:=S.ok e he;have hfz:=s2 _ _ ok0.d6;refine⟨_,rfl,g.s,C,dx,_,_,rfl,ho2,T.cl,T.lu,mj _ _ _,_,rfl,l,_,_,.ref u1,rfl,rfl,aG.of el,rfl,g.kn,_,rfl,hg,e.d,e.o,_,rfl,hfz,λD hD=>?_⟩;have nD:H D=none:=s2.free hD;have Ju:=c6 hfz hD;refine zS (a:=e.d) (o:=e.o) (kvs:=cL e.E) (λj H6 ys=>∃gQ:List Addr,ys=gQ.map V.ref/\H6 D=some (.lst ys)/\Paired (gZ H6 g.T) gQ ((e.E.map λy=>bB b y.1 m).take j)/\cB D (upd H2 D (.lst [])) H6)
    ⟨[],rfl,a8,by rw[take_zero];exact .nil,cB.refl⟩ (λj H6 ys _ ⟨_,_,_,_,b6⟩=>b6 _ _ (by rw[aJ Ju];exact hfz) Ju) (λj kv H6 ys hkv ⟨gQ,ey,e6,P6,b6⟩=>?_) (λH6 ys ⟨gQ,ey,e6,P6,b6⟩=>?_)
   ·obtain⟨cc,k,hck,rfl⟩:=Je hkv
    have s6:Same H H6:=λx ob e=>b6 _ _ ((ao hD _) _ _ (s2 _ _ e)) (c6 e nD)
    have ho6:=s6 _ _ ho;have hpl:=Paired.length P6;have hel:=ok0.len;rw[length_take,length_map] at hpl
    refine⟨_,rfl,g.s,dx,_,rfl,ho6,gY _ _ _ ⋯ ⋯ ⋯,_,rfl,t0,_,_,.int (i2:Nat),rfl,rfl,a9.of (s6 _ _ htu),rfl,_,rfl,_,rfl,?_⟩;refine⟨g.s,g.n,g.la,g.na,g.ga,g.kn,dx,g.T,g.L,g.w,i2,cc,m,b,rfl,ho6,S.no.mono s6,h2,λu2 H7 s7 n7 IR=>?_⟩;have e7:=s7 _ _ e6;refine⟨e7,?_,gQ++[u2],by rw[ey,map_append];rfl,a8,?_,b6.trans ((cB.of s7).trans qJ)⟩
    ·rw[ey]
     exact lt_of_lt_of_le (show(gQ.map V.ref).length<16000001 by rw[length_map,hpl];omega) (d4 (by omega))
    ·rw[zk3 (IP hck)]
     exact iU (Paired.gJ P6 λ_ _ z=>(z.mono (.of s7)).mono (dX e7)) (.cons (IR.mono (dX e7)) .nil)
   ·have s6:Same H H6:=λx ob e=>b6 _ _ ((ao hD _) _ _ (s2 _ _ e)) (c6 e nD)
    have eq:(cL e.E).length=(e.E.map λy=>bB b y.1 m).length:=by rw[zR,length_map]
    rw[eq,take_length] at P6
    have hel:=ok0.len;have X8:(e.E.map λy=>bB b y.1 m).length<=64:=by rw[length_map];exact hel
    have A2:H6 D=some (.lst (gQ.map V.ref)):=by rw[e6,ey]
    clear e6 ey;have IT:=nD;clear nD hD Ju b6
    generalize IU:D=DD at A2 IT
    clear IU
    refine⟨_,rfl,DD,rfl,⟨_,aG.of A2⟩,λD hD=>Ge (K:=K) (a:=DD) (xs:=(gQ).map V.ref) (λj H8 ys=>∃(sZ:List Addr) (ms:List cV),ys=sZ.map V.ref/\H8 D=some (.lst ys)/\Paired (gZ H8 g.T) sZ ms/\cB D (upd H6 D (.lst [])) H8/\g9 g.T Ks ((e.E.map λy=>bB b y.1 m).take j) ms)
     ⟨[],[],rfl,a8,.nil,cB.refl,by rw[take_zero];exact g9.nil⟩ (λj H8 ys _ ⟨_,_,_,_,_,b,_⟩=>aG.of (b _ _ (by rw[aJ (c6 A2 hD)];exact A2) (c6 A2 hD))) (λj v H8 ys hv ⟨sZ,ms,ey,e8,P8,b8,M6⟩=>?_) (λH8 ys ⟨sZ,ms,ey,e8,P8,b8,M6⟩=>?_)⟩
    ·obtain⟨tj,xj,rfl,sY,jj⟩:=wW P6 hv
     have nD:H D=none:=s6.free hD;have s8:Same H H8:=λb ob e=>b8 _ _ ((ao hD _) _ _ (s6 _ _ e)) (c6 e nD)
     have t8:bQ H6 H8:=λb xs e=>b8 _ _ ((ao hD _) _ _ e) (c6 e hD)
     refine⟨_,rfl,_,rfl,g.s,C,dx,_,_,rfl,s8 _ _ ho,T.cl,T.lu,mj _ _ _,?_⟩;have hml:=M6.1.length_le;rw[length_take] at hml
     have hpl:=Paired.length P8;rcases qM S s8 (jj.mono t8) with⟨e',he',ha,hg⟩|⟨hn,hg⟩
     ·exact⟨g.kn,_,rfl,hg,_,rfl,aP (by intro z;cases z) ⟨sZ,ms,ey,e8,P8,b8,by rw[zk3 sY];exact M6.skip ⟨e',he',ha⟩⟩⟩
     ·refine⟨g.kn,_,rfl,hg,_,rfl,cG rfl ⟨_,rfl,e8,?_,sZ++[tj],ms++[xj],by rw[ey,map_append];rfl,a8,iU (Paired.gJ P8 λ_ _ z=>z.mono (dX e8)) (.cons ((jj.mono t8).mono (dX e8)) .nil),b8.trans qJ,by rw[zk3 sY];exact M6.add hn⟩⟩
      rw[ey];exact lt_of_lt_of_le (show(sZ.map V.ref).length<16000001 by rw[length_map,hpl];omega) (d4 (by omega))
    ·have nD:H D=none:=s6.free hD
     have s8:Same H H8:=λb ob e=>b8 _ _ ((ao hD _) _ _ (s6 _ _ e)) (c6 e nD)
     rw[length_map,Paired.length P6,take_length] at M6
     exact q D sZ ms H8 s8 nD (by rw[e8,ey]) P8 (fin ms (.inr ⟨e,he,Cu,M6⟩))
  ·refine⟨g.kn,_,rfl,hg,_,rfl,aP (by intro z;cases z) ?_⟩
   have pC:H2 l=some (.lst ([u1].map V.ref)):=el;have P4:Paired (gZ H2 g.T) [u1] [bB a c m]:=.cons hu2 .nil;have X8:([bB a c m]:List cV).length<=64:=by simp
   refine⟨_,rfl,l,rfl,⟨_,aG.of pC⟩,λD hD=>Ge (K:=K) (a:=l) (xs:=([u1]).map V.ref) (λj H6 ys=>∃(gQ:List Addr) (ms:List cV),ys=gQ.map V.ref/\H6 D=some (.lst ys)/\Paired (gZ H6 g.T) gQ ms/\cB D (upd H2 D (.lst [])) H6/\g9 g.T Ks (([bB a c m]).take j) ms)
    ⟨[],[],rfl,a8,.nil,cB.refl,by rw[take_zero];exact g9.nil⟩ (λj H6 ys _ ⟨_,_,_,_,_,b,_⟩=>aG.of (b _ _ (by rw[aJ (c6 pC hD)];exact pC) (c6 pC hD))) (λj v H6 ys hv ⟨gQ,ms,ey,e6,P6,b6,M6⟩=>?_) (λH6 ys ⟨gQ,ms,ey,e6,P6,b6,M6⟩=>?_)⟩
   ·obtain⟨tj,xj,rfl,sY,jj⟩:=wW P4 hv
    have nD:H D=none:=s2.free hD;have s6:Same H H6:=λb ob e=>b6 _ _ ((ao hD _) _ _ (s2 _ _ e)) (c6 e nD)
    have t6:bQ H2 H6:=λb xs e=>b6 _ _ ((ao hD _) _ _ e) (c6 e hD)
    refine⟨_,rfl,_,rfl,g.s,C,dx,_,_,rfl,s6 _ _ ho,T.cl,T.lu,mj _ _ _,?_⟩;have hml:=M6.1.length_le;rw[length_take] at hml
    have hpl:=Paired.length P6;rcases qM S s6 (jj.mono t6) with⟨e,he,ha,hg⟩|⟨hn2,hg⟩
    ·exact⟨g.kn,_,rfl,hg,_,rfl,aP (by intro z;cases z) ⟨gQ,ms,ey,e6,P6,b6,by rw[zk3 sY];exact M6.skip ⟨e,he,ha⟩⟩⟩
    ·refine⟨g.kn,_,rfl,hg,_,rfl,cG rfl ⟨_,rfl,e6,?_,gQ++[tj],ms++[xj],by rw[ey,map_append];rfl,a8,iU (Paired.gJ P6 λ_ _ z=>z.mono (dX e6)) (.cons ((jj.mono t6).mono (dX e6)) .nil),b6.trans qJ,by rw[zk3 sY];exact M6.add hn2⟩⟩
     rw[ey];exact lt_of_lt_of_le (show(gQ.map V.ref).length<16000001 by rw[length_map,hpl];omega) (d4 (by omega))
   ·have nD:H D=none:=s2.free hD
    have s6:Same H H6:=λb ob e=>b6 _ _ ((ao hD _) _ _ (s2 _ _ e)) (c6 e nD)
    rw[length_map,Paired.length P4,take_length] at M6
    exact q D gQ ms H6 s6 nD (by rw[e6,ey]) P6 (fin ms (.inl ⟨hn,M6⟩))
def Ready(T:List Raw)(Ks:List Ent)(x:cV):Prop:=match x.1 with
 |.choice a b=>zk4 (.choice a b)=none->Kn T Ks (bB a x.2.1 x.2.2)/\Kn T Ks (bB b x.2.1 x.2.2)
 |.beside a b=>zk4 (.beside a b)=none->∃e∈Ks,jx T e (bB a x.2.1 x.2.2)/\∀y∈e.E,Kn T Ks (bB b y.1 x.2.2)
 |_=>True
inductive Cv(CN C:Addr)(vs:List V)(H:Hp)(Q:VK)(E':XK):Prop
 |mk (g:Gh) (Ks:List Ent) (t:Addr) (x:cV) (z0:vs=[.ref g.s,.ref t]) (z1:eO CN C H g Ks) (z2:gZ H g.T t x) (z3:qK x.1=true) (z4:fj x.1) (z5:(∀y∈zl0 g.w x.1 x.2.1 x.2.2,y∈g.U)) (z6:cw g.w x.1 x.2.1 x.2.2<=16000000) (z7:Ready g.T Ks x) (z8:∀(d:Addr) (E:Es) (H':Hp),Same H H'->H d=none->H' d=some (.dK (cL E))->dI g.w [(x.1,x.2.2)] x.2.1 E->E.length<=64->Q (.ref d) H'):Cv CN C vs H Q E'
theorem Jv{α:Type}(f:α->Nat){l:List α}{x:α}(h:x∈l):f x<=(l.map f).sum:=by
 induction l with
 |nil=>cases h
 |cons y l ih=>
  rw[map_cons,sum_cons];rcases List.mem_cons.mp h with rfl|h
  ·omega
  ·have:=ih h;omega
theorem X9:cQ ["self","spot","number","column","margin","node","length","first","ends"] ["self","spot"] (cg Ia):=⟨rfl,rfl,rfl, ⋯,rfl, ⋯, ⋯⟩
theorem Jw(c k:Nat):vX [] [((.inl ((c:Nat):Int):Key),V.int ((k:Nat):Int))]=cL [(c,k)]:=rfl
theorem IX{fB fH fU:Addr} (F:cA K "worked_out" "Search.worked_out" Ia f fd)(T:kZ K mg C)(TN:k9 K mg CN)
  (SG:MO P w K mg base C aB 1 fG gD "cost_of_signs" ["self","column","length"] (wO C)) (SK:MO P w K mg base C aB 2 fB bD "cost_of_break" ["self","margin"] (zZ C))
  (EN:MO P w K mg base C aB 2 fE eD "ends_of" lE (uT CN C true)) (BE:MO P w K mg base C aB 3 fH hD "ends_behind" uU (wU CN C true))
  (GA:aH P w K mg base aB 1 fA aD ["ends","more","spent"] zT) (bA:Binds K aD ["ends","more","spent"] []) (kA:keepIn K (.ref fA)=true) (mA:mg "add_ends"=some (.ref fA))
  (GU:aH P w K mg base aB 1 fU uD ["ends"] zU) (bU:Binds K uD ["ends"] []) (kU:keepIn K (.ref fU)=true) (mU:mg "undominated"=some (.ref fU)):aH P w K mg base aB 4 f fd ["self","spot"] (Cv CN C):=by
 refine F.cU X9 (λvs H Q E h=>?_) (λcdv A outer s H vs Q E hr h=>?_)
 ·obtain⟨g,Ks,t,x,rfl,_⟩:=h
  rfl
 obtain⟨g,Ks,t,x,rfl,S,ht,hco,hsm,hU,hcw,hrd,q⟩:=h;have nd:=X9.nd;have hr1:cZ 1 _:=hr.mono (by decide);have hr2:cZ 2 _:=hr.mono (by decide)
 refine⟨_,au (aO (i:=2) nd rfl (Or.inl rfl) (aF aN (a6 1) ak (λ_ _=>rfl)))<|
  au (aO (i:=3) nd rfl (Or.inl rfl) (aF aN (a6 1) ak (λ_ _=>rfl)))<|
  au (aO (i:=4) nd rfl (Or.inl rfl) (aF aN (a6 1) ak (λ_ _=>rfl)))<|
  au (aO (i:=5) nd rfl (Or.inl rfl) (aF gK (dY (dY (a6 0) rfl) rfl) (a6 2) (λ_ _=>rfl)))<|
  au (aO (i:=6) nd rfl (Or.inl rfl) (aF gK (dY (dY (a6 0) rfl) rfl) (a6 2) (λ_ _=>rfl)))<|
  au (cN (jZ (Fy (a6 6))) (aL (bx (Gi (Gg (bK iQ (a6 3) (a6 6)) (dU (a6 0) T.cl SG.m SG.ok hr1 SG.b .nil aU (aq (a6 3) (aq (a6 6) a7))) Gb) rfl rfl (by intro z;cases z) (by decide)))) cW)<|
  au (cN (cI d8 (aF aN (a6 5) ak (λ_ _=>rfl)) aK (cP _)) (aL (bx (Gi (Gg (a6 4) (dU (a6 0) T.cl SK.m SK.ok hr2 SK.b .nil aU (aq (a6 4) a7)) Gb) rfl rfl (by intro z;cases z) (by decide)))) cW)<|
  au (aO (i:=7) nd rfl (Or.inl rfl) (dU (a6 0) T.cl EN.m EN.ok hr2 EN.b .nil aU (cF (aF aN (a6 5) ak (λ_ _=>rfl)) (aq (a6 3) (aq (a6 4) a7)))))<|
  au (cN (cI d8 (aF aN (a6 5) ak (λ_ _=>rfl)) aK (cP _)) (aL (bx (dU (a6 0) T.cl BE.m BE.ok hr BE.b .nil aU (aq (a6 7) (cF (aF aN (a6 5) ak (λ_ _=>rfl)) (aq (a6 4) a7)))))) cW)<|
  au (aO (i:=8) nd rfl (Or.inl rfl) (uz Au rfl T.dict ⋯ (aq (a6 7) a7)))<|
  au (fZ (c9 GA hr1 rfl mA kA bA .nil aU (aq (a6 8) (dw (dU (a6 0) T.cl EN.m EN.ok hr2 EN.b .nil aU (cF (aF aN (a6 5) ak (λ_ _=>rfl)) (aq (a6 3) (aq (a6 4) a7)))) (aM ak a7)))))<|
  aL (bx (c9 GU hr1 rfl mU kU bU .nil aU (aq (a6 8) a7))),?_⟩
 obtain⟨a,c,m⟩:=x;obtain⟨i,hti,hi⟩:=ht;have hi:cj g.T i a:=hi;have hU:∀y∈zl0 g.w a c m,y∈g.U:=hU;have hcw:cw g.w a c m<=16000000:=hcw;have hsm:fj a:=hsm;obtain⟨dx,ho⟩:=S.ob;obtain⟨iZ,hn⟩:=S.no.ob;obtain⟨r,hr0,hd,tl,ek,_⟩:=wQ hi;obtain⟨as,t0,hla,hat,htr⟩:=A0 S.no hr0;have htu:H t0=some (.tup (.str hd::tl.map kV)):=by have:=htr;unfold lX at this;rw[ek] at this;exact this
 have hlen:=X7 S.no hi;refine⟨_,rfl,t,_,_,.int (i:Nat),rfl,rfl,a9.of hti,rfl,_,rfl,t,_,_,.int (c:Nat),rfl,rfl,a9.of hti,rfl,_,rfl,t,_,_,.int (m:Nat),rfl,rfl,a9.of hti,rfl,?_⟩;refine⟨_,rfl,g.s,C,dx,_,_,rfl,ho,T.cl,T.qL,sW _ _ _,g.n,CN,iZ,_,_,rfl,hn,TN.cl,TN.qz,sS _ _ _,_,rfl,g.la,_,_,_,rfl,rfl,aG.of hla,hat,?_⟩;refine⟨_,rfl,g.s,C,dx,_,_,rfl,ho,T.cl,T.qL,sW _ _ _,g.n,CN,iZ,_,_,rfl,hn,TN.cl,TN.p9,qy _ _ _,_,rfl,g.ga,_,_,_,rfl,rfl,aG.of S.no.le,hlen,?_⟩;refine⟨_,rfl,_,rfl,?_⟩;show if(!decide (zl6 (zk4 a)=.non))=true then _ else _
 cases hnl:zk4 a with
 |some k=>
  refine cG (by show(!decide (V.int (k:Nat)=V.non))=true;rw[decide_eq_false (λz=>by cases z)];rfl) λp hp=>?_
  have s1:=ao hp (.dK []);refine⟨_,rfl,_,rfl,_,_,rfl,rfl,_,rfl,g.s,dx,_,rfl,s1 _ _ ho,gY _ _ _ ⋯ ⋯ ⋯,_,rfl,_,rfl,g.s,g.n,g.kn,dx,g.w,c,k,rfl,s1 _ _ ho,a8,[(.inl ((c:Nat)+(k:Nat):Int),.int ((SB*ov g.w c k:Nat):Int))],rfl,(by show 1<=15;decide),?_⟩;have e:((c:Nat):Int)+((k:Nat):Int)=((c+k:Nat):Int):=by omega
  rw[e,Jw];exact q p _ _ (k6 s1 hp _) hp a8 (dI.flat c m hnl) (by simp)
 |none=>
 refine aP (by show ¬(!decide (V.non=V.non))=true;decide) ?_;refine⟨_,rfl,t0,_,_,.str hd,rfl,rfl,a9.of htu,(by show dN (V.str hd::tl.map kV) ((0:Nat):Int)=_;exact gF rfl),rfl,_,rfl,?_⟩;cases a with
 |text n=>cases hnl
 |nest _ _=>cases hco
 |align _=>cases hco
 |brk=>
  have hi:g.T[i]? = some .brk:=hi;rw[hr0] at hi
  cases hi;cases ek;refine cG ⋯ λp hp=>?_
  have s1:=ao hp (.dK []);refine⟨_,rfl,_,rfl,g.s,dx,_,rfl,s1 _ _ ho,gY _ _ _ ⋯ ⋯ ⋯,_,rfl,g.s,g.n,g.kn,dx,g.w,m,rfl,s1 _ _ ho,a8,[(.inl ((m:Nat):Int),.int ((1+SB*ov g.w 0 m:Nat):Int))],rfl,(by show 1<=15;decide),?_⟩;rw[Jw];exact q p _ _ (k6 s1 hp _) hp a8 (dI.brk g.w c m) (by simp)
 |choice a b=>
  obtain⟨i1,i2,e,h1,h2⟩:=hi;rw[hr0] at e
  cases e;cases ek;refine aP ⋯ ?_
  have hrd:=hrd hnl;obtain⟨k1,k2⟩:=hrd;have u1:∀y∈zl0 g.w a c m,y∈g.U:=λy hy=>hU y (mem_cons_of_mem _ (mem_append_left _ hy))
  have Jx:cw g.w a c m<=16000000:=by have:2+cw g.w a c m+cw g.w b c m<=16000000:=hcw;omega
  refine⟨_,rfl,g.s,dx,_,rfl,ho,gY _ _ _ ⋯ ⋯ ⋯,_,rfl,t0,_,_,.int (i1:Nat),rfl,rfl,a9.of htu,rfl,_,rfl,_,rfl,?_⟩;refine⟨g,Ks,i1,c,m,a,rfl,S,h1,hsm.1,u1,Jx,λ_=>k1,λd o E1 Jy H1 S1 IY b1 hd1 jy hl1 Jz=>?_⟩;obtain⟨ek1,s1,Ce⟩:=Jz rfl;subst ek1;refine⟨_,rfl,t0,_,_,.str "choice",rfl,rfl,a9.of (s1 _ _ htu),rfl,rfl,_,rfl,?_⟩
  refine aP ⋯ ?_
  refine⟨_,rfl,d,_,rfl,.inr ⟨o,hd1⟩,λp hp=>?_⟩;have s2:=s1.trans (ao hp (.dK (cL E1)));have hpp:(upd H1 p (.dK (cL E1))) p=some (.dK (cL E1)):=a8;have S2:=S1.mono (ao hp (.dK (cL E1)));have np:H p=none:=s1.free hp
  generalize upd H1 p (.dK (cL E1))=H2 at s2 hpp S2
  have u2:∀y∈zl0 g.w b c m,y∈g.U:=λy hy=>hU y (mem_cons_of_mem _ (mem_append_right _ hy))
  have IZ:cw g.w b c m<=16000000:=by have:2+cw g.w a c m+cw g.w b c m<=16000000:=hcw;omega
  refine⟨_,rfl,_,rfl,g.s,dx,_,rfl,s2 _ _ ho,gY _ _ _ ⋯ ⋯ ⋯,_,rfl,t0,_,_,.int (i2:Nat),rfl,rfl,a9.of (s2 _ _ htu),rfl,_,rfl,_,rfl,?_⟩;refine⟨g,Jy,i2,c,m,b,rfl,S2,h2,hsm.2.1,u2,IZ,λ_=>k2,λd2 o2 E2 Jn H3 S3 X5 b3 gw uV hl3 sm3=>?_⟩;obtain⟨ek2,s3,en3⟩:=sm3 rfl;subst ek2;refine⟨p,d2,o2,E1,E2,0,rfl,s3 _ _ hpp,gw,jy.nodup,uV.nodup,by omega,λD H4 A4 Js b4=>?_⟩;have hs:∀x∈D,x∈E1\/x∈E2:=λx hx=>by
   rcases A4.sound x hx with z|⟨y,hy,e⟩
   ·exact .inl z
   ·rw[zero_add] at e;rw[e];exact .inr hy
  have hc:∀x,x∈E1\/x∈E2->∃y∈D,y.1=x.1/\y.2<=x.2:=λx hx=>by
   rcases hx with z|z
   ·exact A4.old x z
   ·have:=A4.new x z;rw[zero_add] at this;exact this
  have Cw:D.length<=63:=by
   have:=WM A4.nodup (R:=j6 [c] (.choice a b,m)) λk hk=>by
    obtain⟨x,hx,rfl⟩:=List.mem_map.mp hk;refine Wq hnl ?_;rcases hs x hx with z|z
    ·exact .inl (jy.ends x z)
    ·exact .inr (uV.ends x z)
   rw[length_map,Wn] at this
   have h63:tot (.choice a b)<=63:=hsm.2.2;unfold tot at h63
   simp only[length_singleton,Nat.mul_one] at this
   omega
  have s4:Same H H4:=λx ob e=>b4 _ _ ((s2.trans s3) _ _ e) (c6 e np)
  refine⟨_,rfl,p,D,rfl,Js,A4.nodup,by omega,λp2 E5 H5 U5 l5 s5 n5 e5=>?_⟩;exact q p2 E5 H5 (s4.trans s5) (s4.free n5) e5 (dI.choice hnl jy uV hs hc U5) l5
 |beside a b=>
  obtain⟨i1,i2,e,h1,h2⟩:=hi;rw[hr0] at e
  cases e;cases ek;refine aP ⋯ ?_
  have hrd:=hrd hnl;obtain⟨e,he,Cu,hes⟩:=hrd;have u1:∀y∈zl0 g.w a c m,y∈g.U:=λy hy=>hU y (mem_cons_of_mem _ (mem_append_left _ hy))
  have Jx:cw g.w a c m<=16000000:=by have:3+cw g.w a c m+((d9 g.w a c m).map λo=>cw g.w b o.2.1 m).sum<=16000000:=hcw;omega
  refine⟨_,rfl,g.s,dx,_,rfl,ho,gY _ _ _ ⋯ ⋯ ⋯,_,rfl,t0,_,_,.int (i1:Nat),rfl,rfl,a9.of htu,rfl,_,rfl,_,rfl,?_⟩;refine⟨g,Ks,i1,c,m,a,rfl,S,h1,hsm.1,u1,Jx,λ_=>⟨e,he,Cu⟩,λd o E1 Jy H1 S1 IY b1 hd1 jy hl1 Jz=>?_⟩;obtain⟨ek1,s1,Ce⟩:=Jz rfl;subst ek1;refine⟨_,rfl,t0,_,_,.str "beside",rfl,rfl,a9.of (s1 _ _ htu),rfl,rfl,_,rfl,?_⟩
  have eE:=Ce e he Cu;subst eE;refine cG ⋯ ?_
  refine⟨_,rfl,g.s,dx,_,rfl,s1 _ _ ho,gY _ _ _ ⋯ ⋯ ⋯,_,rfl,_,rfl,t0,_,_,.int (i2:Nat),rfl,rfl,a9.of (s1 _ _ htu),rfl,_,rfl,?_⟩;refine⟨g,Jy,d,o,e.E,[(a,m)],c,i2,m,b,rfl,S1,hd1,jy,hl1,h2,hsm.2.1,by rw[WD hnl];exact hsm.2.2,λy hy=>?_,λd2 E2 Jn H2 S2 zh3 b2 n2 hd2 JA hl2 JE=>?_⟩
  ·obtain⟨sy,A3⟩:=jy.sound y hy
   rw[jQ] at A3
   refine⟨λz hz=>hU z (mem_cons_of_mem _ (mem_append_right _ (List.mem_flatMap.mpr ⟨_,A3,hz⟩))),?_,λ_=>hes y hy⟩;have:=Jv (λo:Run=>cw g.w b o.2.1 m) A3;have zh4:3+cw g.w a c m+((d9 g.w a c m).map λo=>cw g.w b o.2.1 m).sum<=16000000:=hcw;have this:cw g.w b y.1 m<=_:=this
   omega
  ·exact q d2 E2 H2 (s1.trans (JE rfl).2) (s1.free n2) hd2 (JA.beside hnl) hl2
inductive iK where
 |A|B|C
noncomputable def rem(w:Nat)(x:cV):iK->Nat
 |.A=>cw w x.1 x.2.1 x.2.2
 |.B=>match x.1 with
  |.beside a b=>2+((d9 w a x.2.1 x.2.2).map λo=>cw w b o.2.1 x.2.2).sum
  |_=>1
 |.C=>1
theorem Xa(w:Nat)(x:cV)(s:iK):1<=rem w x s:=by
 obtain⟨a,c,m⟩:=x;cases s with
 |A=>exact Jj w a c m
 |B=>cases a<;>first|exact le_refl _|(show 1<=2+_;omega)
 |C=>exact le_refl _
def uW(T:List Raw)(Ks:List Ent)(S:cV->Prop)(x:cV):iK->Prop
 |.A=>True
 |.B=>match x.1 with
  |.choice a b=>S (bB a x.2.1 x.2.2)/\S (bB b x.2.1 x.2.2)
  |.beside a _=>S (bB a x.2.1 x.2.2)
  |_=>True
 |.C=>match x.1 with
  |.choice a b=>S (bB a x.2.1 x.2.2)/\S (bB b x.2.1 x.2.2)
  |.beside a b=>∃e∈Ks,jx T e (bB a x.2.1 x.2.2)/\∀y∈e.E,S (bB b y.1 x.2.2)
  |_=>True
theorem uW.mono  {S S':cV->Prop}(hk:∀e∈Ks,e∈bH)(hs:∀x,S x->S' x) : ∀ {s:iK},uW T Ks S x s->uW T bH S' x s:=by
 obtain⟨a,c,m⟩:=x;intro s h;cases s with
 |A=>trivial
 |B=>
  cases a with
  |choice a b=>exact⟨hs _ h.1,hs _ h.2⟩
  |beside a b=>exact hs _ h
  |_=>trivial
 |C=>
  cases a with
  |choice a b=>exact⟨hs _ h.1,hs _ h.2⟩
  |beside a b=>obtain⟨e,he,h1,h2⟩:=h;exact⟨e,hk e he,h1,λy hy=>hs _ (h2 y hy)⟩
  |_=>trivial
def jR(T:List Raw)(Ks:List Ent):(cV->Prop)->List (cV×iK)->Prop
 |_,[]=>True
 |S,p::r=>uW T Ks S p.1 p.2/\jR T Ks (λy=>S y\/y=p.1) r
theorem jR.mono{T:List Raw}{Ks bH:List Ent}(hk:∀e∈Ks,e∈bH):∀ {G:List (cV×iK)} {S S':cV->Prop},(∀x,S x->S' x)->jR T Ks S G->jR T bH S' G
 |[],_,_,_,_=>trivial
 |p::r,S,S',hs,h=>⟨h.1.mono hk hs,jR.mono hk (λx hx=>hx.elim (λz=>.inl (hs x z)) .inr) h.2⟩
theorem jR.push{T:List Raw}{Ks:List Ent}{r:List (cV×iK)}:∀(l:List cV) {S:cV->Prop},jR T Ks (λy=>S y\/y∈l) r->jR T Ks S (l.map (λx=>(x,iK.A))++r)
 |[],S,h=>jR.mono (λ_ z=>z) (λx hx=>hx.elim id (λz=>by cases z)) h
 |x::l,S,h=>⟨trivial,jR.push l (jR.mono (λ_ z=>z) (λy hy=>by
   rcases hy with z|z
   ·exact .inl (.inl z)
   ·rcases List.mem_cons.mp z with e|z
    ·exact .inl (.inr e)
    ·exact .inr z) h)⟩
def mq(w:Nat)(G:List (cV×iK)):Nat:=(G.map λp=>rem w p.1 p.2).sum
theorem JB(w:Nat):∀G:List (cV×iK),G.length<=mq w G
 |[]=>zero_le _
 |p::r=>by
  have:=JB w r;have:=Xa w p.1 p.2;show r.length+1<=rem w p.1 p.2+mq w r;omega
theorem JI(w:Nat)(l:List cV)(r:List (cV×iK)):mq w (l.map (λx=>(x,iK.A))++r)=(l.map λy=>cw w y.1 y.2.1 y.2.2).sum+mq w r:=by
 unfold mq;rw[map_append,sum_append,map_map];rfl
def Good(w:Nat)(U:List cV)(x:cV):Prop:=qK x.1=true/\fj x.1/\(∀y∈zl0 w x.1 x.2.1 x.2.2,y∈U)/\cw w x.1 x.2.1 x.2.2<=16000000
theorem A5{w:Nat}   (h1:fj a)(h2:∀y∈zl0 w a c m,y∈U)(h3:cw w a c m<=16000000):Good w U (bB a c m):=
 ⟨zV a c m,h1.spot c m,by rw[zX] at h2;exact h2,by rw[zY] at h3;exact h3⟩
theorem Cy(w:Nat)(a:Nd)(c m:Nat):cw w (bB a c m).1 (bB a c m).2.1 (bB a c m).2.2=cw w a c m:=(zY w a c m).symm
structure A6(w:Nat)(T:List Raw)(Ks:List Ent):Prop where
 ends:∀e∈Ks,∀a,cj T e.i a->dI w [(a,e.m)] e.c e.E
 one:∀e∈Ks,∀e'∈Ks,∀x,jx T e x->jx T e' x->e=e'
theorem A6.runs{w:Nat}  (K:A6 w T Ks){e:Ent}(he:e∈Ks)  (h:jx T e (bB a c m)):(e.E.map (·.1)).Nodup/\∀y∈e.E,∃s,(s,y.1,y.2)∈d9 w a c m:=by
 have h1:=K.ends e he _ h.1;have e2:e.c=c:=h.2.1;have e3:e.m=(eF a c m).2:=h.2.2;rw[e2,e3] at h1
 refine⟨h1.nodup,λy hy=>?_⟩;obtain⟨s,hs⟩:=h1.sound y hy;rw[jQ] at hs
 exact⟨s,by rw[zW];exact hs⟩
theorem JO{w:Nat}   (h1:(E.map (·.1)).Nodup)(h2:∀y∈E,∃s,(s,y.1,y.2)∈d9 w a c m):((E.map λy=>bB b y.1 m).map λy=>cw w y.1 y.2.1 y.2.2).sum<=((d9 w a c m).map λo=>cw w b o.2.1 m).sum:=by
 have e1:((E.map λy=>bB b y.1 m).map λy=>cw w y.1 y.2.1 y.2.2)=(E.map (·.1)).map λk=>cw w b k m:=by
  rw[map_map,map_map];exact map_congr_left λy _=>Cy w b y.1 m
 have e2:((d9 w a c m).map λo=>cw w b o.2.1 m)=((d9 w a c m).map λo=>o.2.1).map λk=>cw w b k m:=by rw[map_map];rfl
 rw[e1,e2];refine WK _ _ _ h1 λk hk=>?_
 obtain⟨y,hy,rfl⟩:=List.mem_map.mp hk;obtain⟨s,hs⟩:=h2 y hy;exact List.mem_map.mpr ⟨_,hs,rfl⟩
theorem JP{w:Nat}   (K:A6 w T Ks)  (h:Good w U x)(hm:sX T Ks x ms):∀y∈ms,Good w U y:=by
 obtain⟨a,c,m⟩:=x;obtain⟨h1,h2,h3,h4⟩:=h;cases a with
 |choice a b=>
  have hm:if(zk4 (.choice a b)).isSome=true then ms=[] else g9 T Ks [bB a c m,bB b c m] ms:=hm
  have h4:2+cw w a c m+cw w b c m<=16000000:=h4
  split at hm
  ·rw[hm];intro y hy;cases hy
  ·intro y hy
   have:=hm.sub.subset hy;simp only[mem_cons,not_mem_nil,or_false] at this
   rcases this with rfl|rfl
   ·exact A5 h2.1 (λz hz=>h3 z (mem_cons_of_mem _ (mem_append_left _ hz))) (by omega)
   ·exact A5 h2.2.1 (λz hz=>h3 z (mem_cons_of_mem _ (mem_append_right _ hz))) (by omega)
 |beside a b=>
  have hm:if(zk4 (.beside a b)).isSome=true then ms=[] else(¬Kn T Ks (bB a c m)/\g9 T Ks [bB a c m] ms)\/∃e∈Ks,jx T e (bB a c m)/\g9 T Ks (e.E.map λy=>bB b y.1 m) ms:=hm
  have h4:3+cw w a c m+((d9 w a c m).map λo=>cw w b o.2.1 m).sum<=16000000:=h4
  split at hm
  ·rw[hm];intro y hy;cases hy
  ·intro y hy
   rcases hm with⟨_,hm⟩|⟨e,he,ha,hm⟩
   ·have:=hm.sub.subset hy
    rw[List.mem_singleton.mp this];exact A5 h2.1 (λz hz=>h3 z (mem_cons_of_mem _ (mem_append_left _ hz))) (by omega)
   ·obtain⟨z,hz,rfl⟩:=List.mem_map.mp (hm.sub.subset hy)
    obtain⟨s,hs⟩:=(K.runs he ha).2 z hz;refine A5 h2.2.1 (λv hv=>h3 v (mem_cons_of_mem _ (mem_append_right _ (List.mem_flatMap.mpr ⟨_,hs,hv⟩)))) ?_;have:=Jv (λo:Run=>cw w b o.2.1 m) hs;have this:cw w b z.1 m<=_:=this
    omega
 |text n=>have hm:ms=[]:=hm;rw[hm];intro y hy;cases hy
 |brk=>have hm:ms=[]:=hm;rw[hm];intro y hy;cases hy
 |nest _ _=>have hm:ms=[]:=hm;rw[hm];intro y hy;cases hy
 |align _=>have hm:ms=[]:=hm;rw[hm];intro y hy;cases hy
theorem JU   (hm:sX T Ks x []):Ready T Ks x:=by
 obtain⟨a,c,m⟩:=x;have al:∀ {need:List cV},g9 T Ks need []->∀y∈need,Kn T Ks y:=λh y hy=>(h.all y hy).elim id (λz=>by cases z)
 cases a with
 |choice a b=>
  intro hn;have hn:zk4 (.choice a b)=none:=hn;have hm:if(zk4 (.choice a b)).isSome=true then _ else g9 T Ks [bB a c m,bB b c m] []:=hm
  rw[hn,if_neg (by decide:¬((none:Option Nat).isSome=true))] at hm
  exact⟨al hm _ (by simp),al hm _ (by simp)⟩
 |beside a b=>
  intro hn;have hn:zk4 (.beside a b)=none:=hn;have hm:if(zk4 (.beside a b)).isSome=true then _ else(¬Kn T Ks (bB a c m)/\g9 T Ks [bB a c m] [])\/∃e∈Ks,jx T e (bB a c m)/\g9 T Ks (e.E.map λy=>bB b y.1 m) []:=hm
  rw[hn,if_neg (by decide:¬((none:Option Nat).isSome=true))] at hm
  rcases hm with⟨h1,h2⟩|⟨e,he,h1,h2⟩
  ·exact absurd (al h2 _ (by simp)) h1
  ·exact⟨e,he,h1,λy hy=>al h2 _ (List.mem_map.mpr ⟨y,hy,rfl⟩)⟩
 |_=>trivial
theorem JY{w:Nat}  (K:A6 w T Ks) {st:iK} (hm:sX T Ks x ms)(hne:ms≠[])(hc:uW T Ks (Kn T Ks) x st):
  ∃st',uW T Ks (λy=>Kn T Ks y\/y∈ms) x st'/\(ms.map λy=>cw w y.1 y.2.1 y.2.2).sum+rem w x st'<rem w x st:=by
 obtain⟨a,c,m⟩:=x;have em:∀ {need:List cV},g9 T Ks need ms->(∀y∈need,Kn T Ks y)->False:=λh hk=>by
  cases ms with
  |nil=>exact hne rfl
  |cons y r=>exact h.no y mem_cons_self (hk y (h.sub.subset mem_cons_self))
 cases a with
 |choice a b=>
  have hm:if(zk4 (.choice a b)).isSome=true then ms=[] else g9 T Ks [bB a c m,bB b c m] ms:=hm
  split at hm
  ·exact absurd hm hne
  ·have Xb:Kn T Ks (bB a c m)/\Kn T Ks (bB b c m)->False:=λ⟨k1,k2⟩=>em hm λy hy=>by
    simp only[mem_cons,not_mem_nil,or_false] at hy
    rcases hy with rfl|rfl
    ·exact k1
    ·exact k2
   cases st with
   |A=>
    refine⟨.B,⟨hm.all _ (by simp),hm.all _ (by simp)⟩,?_⟩;have h1:=Jl (λy:cV=>cw w y.1 y.2.1 y.2.2) hm.sub;simp only[map_cons,map_nil,sum_cons,sum_nil,Cy] at h1
    show _+1<2+cw w a c m+cw w b c m;omega
   |B=>exact(Xb hc).elim
   |C=>exact(Xb hc).elim
 |beside a b=>
  have hm:if(zk4 (.beside a b)).isSome=true then ms=[] else(¬Kn T Ks (bB a c m)/\g9 T Ks [bB a c m] ms)\/∃e∈Ks,jx T e (bB a c m)/\g9 T Ks (e.E.map λy=>bB b y.1 m) ms:=hm
  split at hm
  ·exact absurd hm hne
  ·rcases hm with⟨hn,hm⟩|⟨e,he,ha,hm⟩
   ·cases st with
    |A=>
     refine⟨.B,hm.all _ (by simp),?_⟩;have h1:=Jl (λy:cV=>cw w y.1 y.2.1 y.2.2) hm.sub;simp only[map_cons,map_nil,sum_cons,sum_nil,Cy] at h1
     show _+(2+_)<3+cw w a c m+_;omega
    |B=>exact absurd hc hn
    |C=>
     obtain⟨e,he,ha,_⟩:=hc;exact absurd ⟨e,he,ha⟩ hn
   ·obtain⟨r1,r2⟩:=K.runs he ha
    have h1:=Jl (λy:cV=>cw w y.1 y.2.1 y.2.2) hm.sub;have h2:=JO (b:=b) r1 r2;have cC:uW T Ks (λy=>Kn T Ks y\/y∈ms) (Nd.beside a b,c,m) .C:=⟨e,he,ha,λy hy=>hm.all _ (List.mem_map.mpr ⟨y,hy,rfl⟩)⟩;cases st with
    |A=>
     refine⟨.C,cC,?_⟩;show _+1<3+cw w a c m+((d9 w a c m).map λo=>cw w b o.2.1 m).sum;omega
    |B=>
     refine⟨.C,cC,?_⟩;show _+1<2+((d9 w a c m).map λo=>cw w b o.2.1 m).sum;omega
    |C=>
     obtain⟨e',he',ha',hk⟩:=hc;have:=K.one e he e' he' _ ha ha';subst this
     exact(em hm λy hy=>by obtain⟨z,hz,rfl⟩:=List.mem_map.mp hy;exact hk z hz).elim
 |text n=>exact absurd hm hne
 |brk=>exact absurd hm hne
 |nest _ _=>exact absurd hm hne
 |align _=>exact absurd hm hne
theorem eO.book  {g:Gh} (S:eO CN C H g Ks):A6 g.w g.T Ks:=
 ⟨λe he a ha=>by
  obtain⟨a',h1,_,h3⟩:=(S.ok e he).at_
  rw[cj.one ha h1];exact h3,λe he e' he' x h h'=>Jo S he he' h h'⟩
def Reach(w:Nat)(U:List cV):Sq->Nat->Prop
 |[],_=>True
 |x::r,c=>(∀y∈zl0 w x.1 c x.2,y∈U)/\cw w x.1 c x.2<=16000000/\∀o∈d9 w x.1 c x.2,Reach w U r o.2.1
structure h8(w:Nat)(U:List cV)(q:Sq)(c:Nat):Prop where
 sm:∀p∈q,fj p.1
 few:∀k,cnt 1 (q.take k)<=63
 reach:Reach w U q c
theorem Xc{w:Nat}{U:List cV}:∀ {q:Sq} {c j:Nat} {a:Nd} {m:Nat},Reach w U q c->q[j]? = some (a,m)->∀o∈cY w (q.take j) c,(∀y∈zl0 w a o.2.1 m,y∈U)/\cw w a o.2.1 m<=16000000
 |[],c,j,a,m,_,h,_,_=>by simp at h
 |x::r,c,0,a,m,hr,h,o,ho=>by
  have h:x=(a,m):=by simpa using h
  subst h;have ho:o∈[([],c,0)]:=ho;rw[List.mem_singleton.mp ho];exact⟨hr.1,hr.2.1⟩
 |x::r,c,j+1,a,m,hr,h,o,ho=>by
  have h:r[j]? = some (a,m):=by simpa using h
  obtain⟨o1,h1,o2,h2,rfl⟩:=pq.mp (show o∈zk9 (d9 w x.1 c x.2) (λe=>cY w (r.take j) e) from ho);exact Xc (hr.2.2 o1 h1) h o2 h2
theorem Xd : tot a<=tot (.choice a b)/\tot b<=tot (.choice a b):=by
 cases hn:zk4 (.choice a b) with
 |some l=>
  have hn':fV min (zk4 a) (zk4 b)=some l:=hn;cases ha:zk4 a with
  |none=>rw[ha] at hn';cases hn'
  |some la=>
   cases hb:zk4 b with
   |none=>rw[ha,hb] at hn';cases hn'
   |some lb=>
    unfold tot;rw[pA _ hn,pA _ ha,pA _ hb];exact⟨le_refl _,le_refl _⟩
 |none=>
  have e0:aV (.choice a b)=((aV a).1++(aV b).1,(aV a).2++(aV b).2):=by
   have hn:fV min (zk4 a) (zk4 b)=none:=hn
   conv=>lhs;unfold aV
   rw[hn]
  unfold tot;rw[e0];simp only[length_append];omega
theorem Kb : (aV b).1.length+(aV b).2.length*tot a=tot (.beside a b):=by
 cases hn:zk4 (.beside a b) with
 |some l=>
  have hn':fV (· + ·) (zk4 a) (zk4 b)=some l:=hn;cases ha:zk4 a with
  |none=>rw[ha] at hn';cases hn'
  |some la=>
   cases hb:zk4 b with
   |none=>rw[ha,hb] at hn';cases hn'
   |some lb=>
    unfold tot;rw[pA _ hn,pA _ ha,pA _ hb];rfl
 |none=>
  have h:=WD (m:=0) hn;rw[<-h];show _=(aV b).1.length+(aV b).2.length*((aV a).1.length+(aV a).2.length*1);rw[Nat.mul_one];rfl
theorem qN:∀(a:Nd) (c m:Nat),tot (eF a c m).1=tot a
 |.nest k a,c,m=>by
  have:=qN a c (m+k);refine Eq.trans this ?_
  unfold tot;show _=((aV a).1.map _).length+(aV a).2.length;rw[length_map]
 |.align a,c,m=>by
  have:=qN a c c;refine Eq.trans this ?_
  unfold tot;show _=0+((aV a).1++(aV a).2).length;rw[length_append,zero_add]
 |.text _,_,_=>rfl
 |.brk,_,_=>rfl
 |.beside _ _,_,_=>rfl
 |.choice _ _,_,_=>rfl
theorem fj.tot:∀ {a:Nd},fj a->tot a<=63
 |.text n,_=>by simp[Pq.tot,aV]
 |.brk,_=>by simp[Pq.tot,aV]
 |.nest k a,h=>by rw[<-qN (.nest k a) 0 0,qN (.nest k a) 0 0];have:=fj.tot (a:=a) h;have e:=qN (.nest k a) 0 0;have e2:=qN a 0 (0+k);have:Pq.tot (.nest k a)=Pq.tot a:=e.symm.trans e2;omega
 |.align a,h=>by have:=fj.tot (a:=a) h;have e:=qN (.align a) 0 0;have e2:=qN a 0 0;have:Pq.tot (.align a)=Pq.tot a:=e.symm.trans e2;omega
 |.beside a b,h=>h.2.2
 |.choice a b,h=>h.2.2
theorem JC:∀(q:Sq) {n n':Nat},n<=n'->cnt n q<=cnt n' q
 |[],_,_,h=>h
 |x::q,n,n',h=>JC q (add_le_add_left (mul_le_mul_left _ h) _)
theorem zm0(a:Nd)(m:Nat)(q:Sq):cnt 1 ((a,m)::q)=cnt (tot a) q:=by show cnt ((aV a).1.length+(aV a).2.length*1) q=_;rw[Nat.mul_one];rfl
theorem wX   (h:∀k,cnt 1 (((a,m)::r).take k)<=63)(k:Nat):cnt (tot a) (r.take k)<=63:=by rw[<-zm0 a m];exact h (k+1)
theorem Cz   (h:∀k,cnt (tot a) (r.take k)<=63)(k:Nat):cnt 1 (((a,m)::r).take k)<=63:=by
 cases k with
 |zero=>show 1<=63;decide
 |succ k=>show cnt 1 ((a,m)::r.take k)<=63;rw[zm0];exact h k
theorem Ki(w:Nat)(a:Nd)(m:Nat)(r:Sq)(c:Nat):cY w ((a,m)::r) c=cY w (eF a c m::r) c:=by
 show zk9 (d9 w a c m) _=zk9 (d9 w (eF a c m).1 c (eF a c m).2) _;rw[<-zW]
theorem h8.spot{w:Nat}{U:List cV}{a:Nd}{m:Nat}{r:Sq}{c:Nat}(h:h8 w U ((a,m)::r) c):h8 w U (eF a c m::r) c:=by
 obtain⟨h1,h2,h3,h4,h5⟩:=h;refine⟨λp hp=>?_,Cz λk=>?_,?_⟩
 ·rcases List.mem_cons.mp hp with rfl|hp
  ·exact(h1 _ mem_cons_self).spot c m
  ·exact h1 p (mem_cons_of_mem _ hp)
 ·rw[qN];exact wX h2 k
 ·refine⟨?_,?_,?_⟩
  ·rw[<-zX];exact h3
  ·rw[<-zY];exact h4
  ·rw[<-zW];exact h5
theorem h8.text{w:Nat}    (h:h8 w U ((.text n,m)::r) c):h8 w U r (c+n):=by
 obtain⟨h1,h2,h3,h4,h5⟩:=h;exact⟨λp hp=>h1 p (mem_cons_of_mem _ hp),λk=>wX h2 k,h5 _ (List.mem_singleton.mpr rfl)⟩
theorem h8.brk{w:Nat}    (h:h8 w U ((.brk,m)::r) c):h8 w U r m:=by
 obtain⟨h1,h2,h3,h4,h5⟩:=h;exact⟨λp hp=>h1 p (mem_cons_of_mem _ hp),λk=>wX h2 k,h5 _ (List.mem_singleton.mpr rfl)⟩
theorem h8.beside{w:Nat}{U:List cV}{a b:Nd}{m:Nat}{r:Sq}{c:Nat}(h:h8 w U ((.beside a b,m)::r) c):h8 w U ((a,m)::(b,m)::r) c:=by
 obtain⟨h1,h2,h3,h4,h5⟩:=h;have s0:fj (.beside a b):=h1 _ mem_cons_self;have h4:3+cw w a c m+((d9 w a c m).map λo=>cw w b o.2.1 m).sum<=16000000:=h4;refine⟨λp hp=>?_,λk=>?_,?_⟩
 ·rcases List.mem_cons.mp hp with rfl|hp
  ·exact s0.1
  ·rcases List.mem_cons.mp hp with rfl|hp
   ·exact s0.2.1
   ·exact h1 p (mem_cons_of_mem _ hp)
 ·cases k with
  |zero=>show 1<=63;decide
  |succ k=>
   cases k with
   |zero=>show cnt 1 [(a,m)]<=63;rw[HI];exact s0.1.tot
   |succ k=>
    show cnt 1 ((a,m)::(b,m)::r.take k)<=63;rw[zm0];show cnt ((aV b).1.length+(aV b).2.length*tot a) (r.take k)<=63;rw[Kb];exact wX h2 k
 ·refine⟨λy hy=>h3 y (mem_cons_of_mem _ (mem_append_left _ hy)),(by show cw w a c m<=_;omega),λo ho=>⟨λy hy=>h3 y (mem_cons_of_mem _ (mem_append_right _ (List.mem_flatMap.mpr ⟨o,ho,hy⟩))),?_,λo2 ho2=>?_⟩⟩
  ·have ho:o∈d9 w a c m:=ho
   have:=Jv (λo:Run=>cw w b o.2.1 m) ho;have this:cw w b o.2.1 m<=_:=this
   show cw w b o.2.1 m<=_;omega
  ·exact h5 (o.1++o2.1,o2.2.1,o.2.2+o2.2.2) (pq.mpr ⟨o,ho,o2,ho2,rfl⟩)
theorem h8.left{w:Nat}     (h:h8 w U ((.choice a b,m)::r) c):h8 w U ((a,m)::r) c:=by
 obtain⟨h1,h2,h3,h4,h5⟩:=h;have s0:fj (.choice a b):=h1 _ mem_cons_self;have h4:2+cw w a c m+cw w b c m<=16000000:=h4;refine⟨λp hp=>?_,Cz λk=>le_trans (JC _ Xd.1) (wX h2 k),λy hy=>h3 y (mem_cons_of_mem _ (mem_append_left _ hy)),(by show cw w a c m<=_;omega),λo ho=>h5 (0::o.1,o.2) (mem_append_left _ (List.mem_map.mpr ⟨o,ho,rfl⟩))⟩;rcases List.mem_cons.mp hp with rfl|hp
 ·exact s0.1
 ·exact h1 p (mem_cons_of_mem _ hp)
theorem h8.right{w:Nat}     (h:h8 w U ((.choice a b,m)::r) c):h8 w U ((b,m)::r) c:=by
 obtain⟨h1,h2,h3,h4,h5⟩:=h;have s0:fj (.choice a b):=h1 _ mem_cons_self;have h4:2+cw w a c m+cw w b c m<=16000000:=h4;refine⟨λp hp=>?_,Cz λk=>le_trans (JC _ Xd.2) (wX h2 k),λy hy=>h3 y (mem_cons_of_mem _ (mem_append_right _ hy)),(by show cw w b c m<=_;omega),λo ho=>h5 (1::o.1,o.2) (mem_append_right _ (List.mem_map.mpr ⟨o,ho,rfl⟩))⟩;rcases List.mem_cons.mp hp with rfl|hp
 ·exact s0.2.1
 ·exact h1 p (mem_cons_of_mem _ hp)
noncomputable def dM:Nd->Nat
 |.text _=>1
 |.brk=>1
 |.nest _ a=>dM a+1
 |.align a=>dM a+1
 |.beside a b=>dM a+dM b+1
 |.choice a b=>dM a+dM b+1
theorem A7(a:Nd):1<=dM a:=by cases a<;>simp[dM]
theorem JF:∀(a:Nd) (c m:Nat),dM (eF a c m).1<=dM a
 |.nest k a,c,m=>le_succ_of_le (JF a c (m+k))
 |.align a,c,m=>le_succ_of_le (JF a c c)
 |.text _,_,_=>le_refl _
 |.brk,_,_=>le_refl _
 |.beside _ _,_,_=>le_refl _
 |.choice _ _,_,_=>le_refl _
def zl4(q:Sq):Nat:=(q.map λp=>dM p.1).sum
theorem t9(p:Nd×Nat)(q:Sq):zl4 (p::q)=dM p.1+zl4 q:=rfl
theorem Xe:∀q:Sq,q.length<=zl4 q
 |[]=>zero_le _
 |p::q=>by have:=Xe q;have:=A7 p.1;rw[t9,length_cons];omega
theorem Least.eq{w:Nat}    (h:Least (cY w ((.choice a a,m)::r) c) k):Least (cY w ((a,m)::r) c) k:=by
 rw[wM] at h
 obtain⟨⟨o,ho,e⟩,h2⟩:=h;refine⟨?_,λx hx=>h2 (0::x.1,x.2) (mem_append_left _ (List.mem_map.mpr ⟨x,hx,rfl⟩))⟩;rcases List.mem_append.mp ho with z|z
 ·obtain⟨x,hx,rfl⟩:=List.mem_map.mp z;exact⟨x,hx,e⟩
 ·obtain⟨x,hx,rfl⟩:=List.mem_map.mp z;exact⟨x,hx,e⟩
theorem Least.side{w:Nat}   {j:Nat}(h:Least (cY w ((.choice a b,m)::r) c) k)(h0:Least (cY w ((a,m)::r) c) j):(j=k/\Least (cY w ((a,m)::r) c) k)\/(j≠k/\Least (cY w ((b,m)::r) c) k/\∀o∈cY w ((a,m)::r) c,k<o.2.2):=by
 rw[wM] at h
 obtain⟨⟨o,ho,e⟩,h2⟩:=h;have l0:∀x∈cY w ((a,m)::r) c,k<=x.2.2:=λx hx=>h2 (0::x.1,x.2) (mem_append_left _ (List.mem_map.mpr ⟨x,hx,rfl⟩))
 have l1:∀x∈cY w ((b,m)::r) c,k<=x.2.2:=λx hx=>h2 (1::x.1,x.2) (mem_append_right _ (List.mem_map.mpr ⟨x,hx,rfl⟩))
 obtain⟨⟨o1,ho1,e1⟩,h3⟩:=h0
 by_cases hj:j=k
 ·subst hj;exact .inl ⟨rfl,⟨o1,ho1,e1⟩,h3⟩
 ·have hjk:k<j:=by have:=l0 o1 ho1;omega
  refine .inr ⟨hj,⟨?_,l1⟩,λx hx=>lt_of_lt_of_le hjk (h3 x hx)⟩;rcases List.mem_append.mp ho with z|z
  ·obtain⟨x,hx,rfl⟩:=List.mem_map.mp z
   have:=h3 x hx;have e:x.2.2=k:=e;omega
  ·obtain⟨x,hx,rfl⟩:=List.mem_map.mp z;exact⟨x,hx,e⟩
noncomputable def nS:Nd->Nat
 |.text _=>1|.brk=>1|.nest _ a=>nS a|.align a=>nS a
 |.beside a b=>nS a*nS b
 |.choice a b=>nS a+nS b
noncomputable def nN:Nd->Nat
 |.text _=>1|.brk=>1|.nest _ a=>nN a|.align a=>nN a
 |.beside a b=>nN a+nN b+3
 |.choice a b=>max (nN a) (nN b)+1
theorem mz:∀a:Nd,1<=nS a
 |.text _=>le_refl _
 |.brk=>le_refl _
 |.nest _ a=>mz a
 |.align a=>mz a
 |.beside a b=>mul_le_mul (mz a) (mz b)
 |.choice a b=>by have:=mz a;show 1<=nS a+nS b;omega
theorem tE(w:Nat):∀(a:Nd) (c m:Nat),(d9 w a c m).length=nS a
 |.text _,_,_=>rfl
 |.brk,_,_=>rfl
 |.nest k a,c,m=>tE w a c (m+k)
 |.align a,c,_=>tE w a c c
 |.beside a b,c,m=>by
  show((d9 w a c m).flatMap _).length=_;rw[lM _ (nS b) _ λo _=>by rw[length_map];exact tE w b _ m,tE w a c m];rfl
 |.choice a b,c,m=>by
  show(_++_:List Run).length=_;rw[length_append,length_map,length_map,tE w a c m,tE w b c m];rfl
theorem Xf(sa sb na nb x y k:Nat)(h1:1<=sa)(h2:1<=sb)(hk:k<=3)(hx:x<=sa*na)(hy:y<=sa*(sb*nb)):k+x+y<=sa*sb*(na+nb+3):=by
 have e:sa*sb*(na+nb+3)=sa*sb*na+sa*sb*nb+sa*sb*3:=by rw[mul_add,mul_add]
 have e1:sa*na<=sa*sb*na:=by
  have:=mul_le_mul_left sa h2;exact mul_le_mul_right na (by omega)
 have e2:1<=sa*sb:=mul_le_mul h1 h2;have e3:sa*(sb*nb)=sa*sb*nb:=(mul_assoc _ _ _).symm;omega
theorem Xg(sa sb na nb x y k:Nat)(h1:1<=sa)(h2:1<=sb)(hk:k<=2)(hx:x<=sa*na)(hy:y<=sb*nb):k+x+y<=(sa+sb)*(max na nb+1):=by
 have e:(sa+sb)*(max na nb+1)=sa*max na nb+sb*max na nb+(sa+sb):=by rw[mul_add,add_mul];omega
 have e1:sa*na<=sa*max na nb:=mul_le_mul_left _ (by omega);have e2:sb*nb<=sb*max na nb:=mul_le_mul_left _ (by omega);omega
theorem Xh{α:Type}(f:α->Nat)(n:Nat):∀l:List α,(∀x∈l,f x<=n)->(l.map f).sum<=l.length*n
 |[],_=>zero_le _
 |x::l,h=>by
  have h1:=h x mem_cons_self;have h2:=Xh f n l λy hy=>h y (mem_cons_of_mem _ hy)
  rw[map_cons,sum_cons,length_cons,add_mul];omega
theorem Xi{α β:Type}(f:α->List β)(n:Nat):∀l:List α,(∀x∈l,(f x).length<=n)->(l.flatMap f).length<=l.length*n
 |[],_=>zero_le _
 |x::l,h=>by
  have h1:=h x mem_cons_self;have h2:=Xi f n l λy hy=>h y (mem_cons_of_mem _ hy)
  rw[flatMap_cons,length_append,length_cons,add_mul];omega
theorem uX(w:Nat):∀(a:Nd) (c m:Nat),cw w a c m<=nS a*nN a
 |.text _,_,_=>le_refl _
 |.brk,_,_=>le_refl _
 |.nest k a,c,m=>uX w a c (m+k)
 |.align a,c,_=>uX w a c c
 |.beside a b,c,m=>by
  have h:=Xh (λo:Run=>cw w b o.2.1 m) (nS b*nN b) (d9 w a c m) λo _=>uX w b _ m
  rw[tE] at h
  exact Xf (nS a) (nS b) (nN a) (nN b) _ _ 3 (mz a) (mz b) (le_refl _) (uX w a c m) h
 |.choice a b,c,m=>Xg (nS a) (nS b) (nN a) (nN b) _ _ 2 (mz a) (mz b) (le_refl _) (uX w a c m) (uX w b c m)
theorem uY(w:Nat):∀(a:Nd) (c m:Nat),(zl0 w a c m).length<=nS a*nN a
 |.text _,_,_=>le_refl _
 |.brk,_,_=>le_refl _
 |.nest k a,c,m=>uY w a c (m+k)
 |.align a,c,_=>uY w a c c
 |.beside a b,c,m=>by
  have h:=Xi (λo:Run=>zl0 w b o.2.1 m) (nS b*nN b) (d9 w a c m) λo _=>uY w b _ m
  rw[tE] at h
  have:=Xf (nS a) (nS b) (nN a) (nN b) _ _ 1 (mz a) (mz b) (by decide) (uY w a c m) h;show(zl0 w a c m++_).length+1<=_;rw[length_append];show _<=nS a*nS b*(nN a+nN b+3);omega
 |.choice a b,c,m=>by
  have:=Xg (nS a) (nS b) (nN a) (nN b) _ _ 1 (mz a) (mz b) (by decide) (uY w a c m) (uY w b c m);show(zl0 w a c m++zl0 w b c m).length+1<=(nS a+nS b)*(max (nN a) (nN b)+1);rw[length_append];omega
theorem pF:∀(p:Plan) (f:Bool),nS (aQ p f)=p.sides.length
 |.text _,_=>rfl
 |.line,f=>by cases f<;>rfl
 |.cut,f=>by cases f<;>rfl
 |.nest n p,f=>by
  show nS (if _ then _ else _)=p.sides.length
  split
  ·exact pF p f
  ·exact pF p f
 |.align p,f=>by
  show nS (if _ then _ else _)=p.sides.length
  split
  ·exact pF p f
  ·exact pF p f
 |.flat p,_=>pF p true
 |.beside p q,f=>by rw[FQ,<-pF p f,<-pF q f];rfl
 |.choice p q,f=>by rw[FT,<-pF p f,<-pF q f];rfl
theorem pG:∀(p:Plan) (f:Bool),nN (aQ p f)<=jh p
 |.text _,_=>le_refl _
 |.line,f=>by cases f<;>exact le_refl _
 |.cut,f=>by cases f<;>exact le_refl _
 |.nest n p,f=>by
  show nN (if _ then _ else _)<=jh p
  split
  ·exact pG p f
  ·exact pG p f
 |.align p,f=>by
  show nN (if _ then _ else _)<=jh p
  split
  ·exact pG p f
  ·exact pG p f
 |.flat p,_=>pG p true
 |.beside p q,f=>by have:=pG p f;have:=pG q f;show nN (aQ p f)+nN (aQ q f)+3<=jh p+jh q+3;omega
 |.choice p q,f=>by have:=pG p f;have:=pG q f;show max (nN (aQ p f)) (nN (aQ q f))+1<=max (jh p) (jh q)+1;omega
theorem tG:∀(p:Plan) (f:Bool),dM (aQ p f)<=p.size
 |.text _,_=>le_refl _
 |.line,f=>by cases f<;>exact le_refl _
 |.cut,f=>by cases f<;>exact le_refl _
 |.nest n p,f=>by
  have:=tG p f;show dM (if _ then _ else _)<=p.size+1
  split
  ·omega
  ·show dM (aQ p f)+1<=_;omega
 |.align p,f=>by
  have:=tG p f;show dM (if _ then _ else _)<=p.size+1
  split
  ·omega
  ·show dM (aQ p f)+1<=_;omega
 |.flat p,_=>by have:=tG p true;show dM (aQ p true)<=p.size+1;omega
 |.beside p q,f=>by have:=tG p f;have:=tG q f;show dM (aQ p f)+dM (aQ q f)+1<=p.size+q.size+1;omega
 |.choice p q,f=>by have:=tG p f;have:=tG q f;show dM (aQ p f)+dM (aQ q f)+1<=p.size+q.size+1;omega
def aA(p:Plan):Nat:=(aV (aQ p false)).1.length
def aR(p:Plan):Nat:=(aV (aQ p false)).2.length
theorem CG {l:Nat}(h:zk4 (aQ p false)=some l):aA p=0/\aR p=1:=by
 unfold aA aR;rw[pA _ h];exact⟨rfl,rfl⟩
theorem Xj(n:Nat)(p:Plan):aA (.nest n p)=aA p/\aR (.nest n p)=aR p:=by
 unfold aA aR;show(aV (if _ then _ else _)).1.length=_/\(aV (if _ then _ else _)).2.length=_
 split
 ·exact⟨rfl,rfl⟩
 ·exact⟨length_map _,rfl⟩
theorem Kj(p:Plan):aA (.align p)+aR (.align p)=aA p+aR p:=by
 unfold aA aR;show(aV (if _ then _ else _)).1.length+(aV (if _ then _ else _)).2.length=_
 split
 ·rfl
 ·show 0+(_++_:List Nat).length=_
  rw[length_append];omega
theorem Xk(p q:Plan):aA (.beside p q)=aA q+aA p*aR q/\aR (.beside p q)=aR p*aR q:=by
 cases hn:zk4 (aQ (.beside p q) false) with
 |some l=>
  have hn':fV (· + ·) (zk4 (aQ p false)) (zk4 (aQ q false))=some l:=hn;obtain⟨h1,h2⟩:=CG hn;cases ep:zk4 (aQ p false) with
  |none=>rw[ep] at hn';cases hn'
  |some lp=>
   cases eq:zk4 (aQ q false) with
   |none=>rw[ep,eq] at hn';cases hn'
   |some lq=>
    obtain⟨a1,a2⟩:=CG ep;obtain⟨b1,b2⟩:=CG eq;rw[h1,h2,a1,a2,b1,b2];exact⟨rfl,rfl⟩
 |none=>
  have hn':fV (· + ·) (zk4 (aQ p false)) (zk4 (aQ q false))=none:=hn;have e0:aV (aQ (.beside p q) false)=((aV (aQ q false)).1++(aV (aQ p false)).1.flatMap (λx=>(aV (aQ q false)).2.map (x + ·)),(aV (aQ p false)).2.flatMap λx=>(aV (aQ q false)).2.map (x + ·)):=by
   show aV (.beside (aQ p false) (aQ q false))=_
   conv=>lhs;unfold aV
   rw[hn']
  unfold aA aR;rw[e0];refine⟨?_,?_⟩
  ·show(_++_:List Nat).length=_
   rw[length_append,lM _ (aV (aQ q false)).2.length _ λ_ _=>by rw[length_map]]
  ·show(List.flatMap _ _).length=_
   rw[lM _ (aV (aQ q false)).2.length _ λ_ _=>by rw[length_map]]
theorem Kk(p:Plan):aA (grp p)<=aA p/\aR (grp p)<=aR p+1:=by
 cases hn:zk4 (aQ (grp p) false) with
 |some l=>obtain⟨h1,h2⟩:=CG hn;omega
 |none=>
  have hn':fV min (zk4 (aQ p true)) (zk4 (aQ p false))=none:=hn;have e0:aV (aQ (grp p) false)=((aV (aQ p true)).1++(aV (aQ p false)).1,(aV (aQ p true)).2++(aV (aQ p false)).2):=by
   show aV (.choice (aQ p true) (aQ p false))=_
   conv=>lhs;unfold aV
   rw[hn']
  obtain⟨l,hl⟩:=Option.isSome_iff_exists.mp (lV p);rw[pA _ hl] at e0
  unfold aA aR;rw[e0];refine⟨le_refl _,?_⟩;show(_++_:List Nat).length<=_;rw[length_append];show 1+_<=_;omega
theorem JG(p:Plan):tot (aQ p false)=aA p+aR p:=rfl
theorem Xl(p:Plan):tot (aQ p true)<=63:=by
 obtain⟨l,hl⟩:=Option.isSome_iff_exists.mp (lV p);unfold tot;rw[pA _ hl];show 0+1<=63
 decide
theorem tH:∀p:Plan,fj (aQ p true)
 |.text _=>trivial
 |.line=>trivial
 |.cut=>trivial
 |.nest n p=>by rw[VJ];exact tH p
 |.align p=>by rw[VL];exact tH p
 |.flat p=>tH p
 |.beside p q=>⟨tH p,tH q,Xl (.beside p q)⟩
 |.choice p q=>⟨tH p,tH q,Xl (.choice p q)⟩
def Sep:Bool->List Plan->Prop
 |_,[]=>True
 |b,p::ps=>((∃s,p=.text s)/\Sep b ps)\/((p=.line\/p=.cut)/\Sep true ps)\/(b=true/\Sep false ps)
theorem Sep.weak:∀ {b:Bool} {ps:List Plan},Sep b ps->Sep true ps
 |_,[],_=>trivial
 |b,p::ps,h=>by
  rcases h with⟨h1,h2⟩|h|⟨h1,h2⟩
  ·exact .inl ⟨h1,h2.weak⟩
  ·exact .inr (.inl h)
  ·exact .inr (.inr ⟨rfl,h2⟩)
theorem Sep.tail{b:Bool}  (h:Sep b (p::ps)):Sep true ps:=by
 rcases h with⟨_,h⟩|⟨_,h⟩|⟨_,h⟩<;>exact h.weak
theorem Sep.drop:∀ {b:Bool} {ps:List Plan} (k:Nat),Sep b ps->Sep true (ps.drop k)
 |_,ps,0,h=>h.weak
 |_,[],k+1,h=>trivial
 |_,p::ps,k+1,h=>Sep.drop k h.tail
theorem Sep.take:∀ {b:Bool} {ps:List Plan} (k:Nat),Sep b ps->Sep b (ps.take k)
 |_,ps,0,h=>by rw[take_zero];exact trivial
 |_,[],k+1,h=>trivial
 |b,p::ps,k+1,h=>by
  rcases h with⟨h1,h2⟩|⟨h1,h2⟩|⟨h1,h2⟩
  ·exact .inl ⟨h1,h2.take k⟩
  ·exact .inr (.inl ⟨h1,h2.take k⟩)
  ·exact .inr (.inr ⟨h1,h2.take k⟩)
def lF(x:Nat×Nat)(ps:List Plan):Nat×Nat:=ps.foldl (λx p=>(aA p+x.1*aR p,x.2*aR p)) x
theorem JH:∀(ps:List Plan) (a r:Nat),lF (a,r) ps=((lF (0,1) ps).1+a*(lF (0,1) ps).2,r*(lF (0,1) ps).2)
 |[],a,r=>by show(a,r)=(0+a*1,r*1);simp
 |p::ps,a,r=>by
  show lF (aA p+a*aR p,r*aR p) ps=_;have e:lF (0,1) (p::ps)=lF (aA p+0*aR p,1*aR p) ps:=rfl;rw[e,JH ps (aA p+a*aR p),JH ps (aA p+0*aR p)];simp only[Nat.zero_mul,Nat.add_zero,one_mul,add_mul,mul_assoc,add_assoc]
theorem Kt(x:Nat×Nat)(ps qs:List Plan):lF x (ps++qs)=lF (lF x ps) qs:=foldl_append
theorem CJ:∀(n:Nat) (ps:List Plan),1<=ps.length->ps.length<=n->(aA (jn n ps),aR (jn n ps))=lF (0,1) ps
 |0,ps,h1,h=>by omega
 |n+1,[],h1,h=>by simp at h1
 |n+1,[p],h1,h=>by show(aA p,aR p)=(aA p+0*aR p,1*aR p);simp
 |n+1,a::b::ps,h1,h=>by
  have h2:2<=(a::b::ps).length:=by simp
  generalize hq:a::b::ps=qs at h h2 ⊢
  rw[rO n h2];have l1:(qs.take (qs.length / 2)).length=qs.length / 2:=by rw[length_take];omega
  have l2:(qs.drop (qs.length / 2)).length=qs.length - qs.length / 2:=length_drop;have i1:=CJ n (qs.take (qs.length / 2)) (by omega) (by omega);have i2:=CJ n (qs.drop (qs.length / 2)) (by omega) (by omega);obtain⟨e1,e2⟩:=Xk (jn n (qs.take (qs.length / 2))) (jn n (qs.drop (qs.length / 2)));have e:=Kt (0,1) (qs.take (qs.length / 2)) (qs.drop (qs.length / 2));rw[take_append_drop,<-i1,JH (qs.drop (qs.length / 2)) (aA (jn n (qs.take (qs.length / 2)))),<-i2] at e
  rw[e,e1,e2]
theorem CK(T:Nat)(hT:1<=T):∀(ps:List Plan) (b:Bool) (x:Nat×Nat),Sep b ps->(∀p∈ps,aA p+aR p<=T)->(b=true->x.1+x.2<=1)->x.1+x.2<=T->(lF x ps).1+(lF x ps).2<=T
 |[],b,x,_,_,_,h=>h
 |p::ps,b,x,h,hp,h1,h2=>by
  have hp':=λq hq=>hp q (mem_cons_of_mem _ hq)
  rcases h with⟨⟨s,rfl⟩,h⟩|⟨hb,h⟩|⟨rfl,h⟩
  ·refine CK T hT ps b _ h hp' (λz=>?_) ?_
   ·have:=h1 z;show 0+x.1*1+x.2*1<=1;omega
   ·show 0+x.1*1+x.2*1<=T;omega
  ·refine CK T hT ps true _ h hp' (λz=>?_) ?_
   ·rcases hb with rfl|rfl
    ·show 1+x.1*0+x.2*0<=1;omega
    ·show 1+x.1*0+x.2*0<=1;omega
   ·rcases hb with rfl|rfl
    ·show 1+x.1*0+x.2*0<=T;omega
    ·show 1+x.1*0+x.2*0<=T;omega
  ·refine CK T hT ps false _ h hp' (λz=>nomatch z) ?_
   have:=hp p mem_cons_self;have h1:=h1 rfl;show aA p+x.1*aR p+x.2*aR p<=T;have e:x.1*aR p+x.2*aR p<=1*aR p:=by rw[<-add_mul];exact mul_le_mul_right _ h1
   omega
theorem wY(T:Nat)(hT:1<=T)(h63:T<=63):∀(n:Nat) (ps:List Plan),1<=ps.length->ps.length<=n->Sep true ps->(∀p∈ps,fj (aQ p false)/\aA p+aR p<=T)->fj (aQ (jn n ps) false)/\aA (jn n ps)+aR (jn n ps)<=T
 |0,ps,h1,h,_,_=>by omega
 |n+1,[],h1,h,_,_=>by simp at h1
 |n+1,[p],h1,h,_,hp=>hp p mem_cons_self
 |n+1,a::b::ps,h1,h,hs,hp=>by
  have h2:2<=(a::b::ps).length:=by simp
  generalize hq:a::b::ps=qs at h h1 h2 hs hp ⊢
  have l1:(qs.take (qs.length / 2)).length=qs.length / 2:=by rw[length_take];omega
  have l2:(qs.drop (qs.length / 2)).length=qs.length - qs.length / 2:=length_drop;have i1:=wY T hT h63 n (qs.take (qs.length / 2)) (by omega) (by omega) (hs.take _) λp hp'=>hp p (List.mem_of_mem_take hp')
  have i2:=wY T hT h63 n (qs.drop (qs.length / 2)) (by omega) (by omega) (hs.drop _) λp hp'=>hp p (List.mem_of_mem_drop hp')
  have e:=CJ (n+1) qs h1 h;have f:=CK T hT qs true (0,1) hs (λp hp'=>(hp p hp').2) (λ_=>le_refl _) hT;rw[<-e] at f
  have f:aA (jn (n+1) qs)+aR (jn (n+1) qs)<=T:=f;refine⟨?_,f⟩;have g:=JG (jn (n+1) qs);rw[rO n h2] at f g ⊢
  exact⟨i1.1,i2.1,by have g:tot (.beside _ _)=_:=g;rw[g];omega⟩
theorem Xm:∀(ps:List Plan) (x:Nat×Nat),(x.2=0\/∃p∈ps,aR p=0)->(lF x ps).2=0
 |[],x,h=>by
  rcases h with h|⟨p,hp,_⟩
  ·exact h
  ·exact nomatch hp
 |q::ps,x,h=>by
  refine Xm ps _ ?_;rcases h with h|⟨p,hp,e⟩
  ·left;show x.2*aR q=0;rw[h,Nat.zero_mul]
  ·rcases List.mem_cons.mp hp with rfl|hp
   ·left;show x.2*aR p=0;rw[e,Nat.mul_zero]
   ·exact .inr ⟨p,hp,e⟩
theorem Sep.app:∀ {b:Bool} {ps qs:List Plan},Sep b ps->Sep false qs->Sep b (ps++qs)
 |true,[],qs,_,h=>h.weak
 |false,[],qs,_,h=>h
 |b,p::ps,qs,h,hq=>by
  rcases h with⟨h1,h2⟩|⟨h1,h2⟩|⟨h1,h2⟩
  ·exact .inl ⟨h1,h2.app hq⟩
  ·exact .inr (.inl ⟨h1,h2.app hq⟩)
  ·exact .inr (.inr ⟨h1,h2.app hq⟩)
structure Fw(p:Plan)(T:Nat):Prop where
 sm:fj (aQ p false)
 le:aA p+aR p<=T
theorem Fw.mono {T T':Nat}(h:Fw p T)(k:T<=T'):Fw p T':=⟨h.sm,le_trans h.le k⟩
theorem tK(s:List Nat):Fw (.text s) 1:=⟨trivial,le_refl _⟩
theorem Kx:Fw .line 1:=⟨trivial,le_refl _⟩
theorem Xn {T:Nat}(n:Nat)(h:Fw p T):Fw (.nest n p) T:=by
 obtain⟨e1,e2⟩:=Xj n p;refine⟨?_,by rw[e1,e2];exact h.le⟩;show fj (if _ then _ else _)
 split
 ·exact h.sm
 ·exact h.sm
theorem Xo {T:Nat}(h:Fw p T):Fw (.align p) T:=by
 refine⟨?_,by rw[Kj];exact h.le⟩;show fj (if _ then _ else _)
 split
 ·exact h.sm
 ·exact h.sm
theorem Xp {T:Nat}(hT:T+1<=63)(h:Fw p T):Fw (grp p) (T+1):=by
 obtain⟨e1,e2⟩:=Kk p;have hl:=h.le;have g:=JG (grp p);exact⟨⟨tH p,h.sm,by have g:tot (.choice _ _)=_:=g;rw[g];omega⟩,by omega⟩
theorem Xq{T:Nat}(hn:9<=n)(hT:1<=T)(h63:T<=63)(t:Tr) (h:Fw p T):Fw (f7 (jn n) k t p) T:=by
 unfold f7
 split
 ·exact h
 ·obtain⟨a,b⟩:=wY T hT h63 n [.text [40],.align p,.text [41]] (by show 1<=3;decide) (by show 3<=n;omega) (.inl ⟨⟨_,rfl⟩,.inr (.inr ⟨rfl,.inl ⟨⟨_,rfl⟩,trivial⟩⟩)⟩) λq hq=>by
   simp only[mem_cons,not_mem_nil,or_false] at hq
   rcases hq with rfl|rfl|rfl
   ·exact⟨(tK _).sm,((tK _).mono hT).le⟩
   ·exact⟨(Xo h).sm,(Xo h).le⟩
   ·exact⟨(tK _).sm,((tK _).mono hT).le⟩
  exact⟨a,b⟩
theorem KA(ps:List Plan):Sep true (gk ps):=by
 cases ps with
 |nil=>exact trivial
 |cons p ps=>
  have r:∀qs:List Plan,Sep false (qs.flatMap λq=>[Plan.text [44],.line,q]):=λqs=>by
   induction qs with
   |nil=>exact trivial
   |cons q qs ih=>exact .inl ⟨⟨_,rfl⟩,.inr (.inl ⟨.inl rfl,.inr (.inr ⟨rfl,ih⟩)⟩)⟩
  exact .inr (.inl ⟨.inr rfl,.inr (.inr ⟨rfl,r ps⟩)⟩)
theorem KB{T:Nat}(hn:9<=n)(hT:1<=T)(h63:T+1<=63)(o c:List Nat) (hl:ps.length<=3)(h:∀p∈ps,Fw p T):Fw (iJ (jn n) o ps c) (T+1):=by
 unfold iJ
 split
 ·exact(tK _).mono (by omega)
 ·rename_i hne
  refine Xp h63 ?_;have l:=qw ps;have lp:1<=(gk ps).length:=by cases ps with
   |nil=>exact absurd rfl hne
   |cons p ps=>show 1<=_+1;omega
  obtain⟨a,b⟩:=wY T hT (by omega) n (gk ps) lp (by omega) (KA ps) (Io (R:=λp=>fj (aQ p false)/\aA p+aR p<=T) ⟨trivial,hT⟩ ⟨trivial,hT⟩ ⟨trivial,hT⟩ ps λp hp=>⟨(h p hp).sm,(h p hp).le⟩);have hin:Fw (.nest 2 (jn n (gk ps))) T:=Xn 2 ⟨a,b⟩;obtain⟨a',b'⟩:=wY T hT (by omega) n [.text o,.nest 2 (jn n (gk ps)),.cut,.text c] (by show 1<=4;decide) (by show 4<=n;omega) (.inl ⟨⟨_,rfl⟩,.inr (.inr ⟨rfl,.inr (.inl ⟨.inr rfl,.inl ⟨⟨_,rfl⟩,trivial⟩⟩)⟩)⟩) λq hq=>by
   simp only[mem_cons,not_mem_nil,or_false] at hq
   rcases hq with rfl|rfl|rfl|rfl
   ·exact⟨trivial,hT⟩
   ·exact⟨hin.sm,hin.le⟩
   ·exact⟨trivial,hT⟩
   ·exact⟨trivial,hT⟩
  exact⟨a',b'⟩
theorem KE (hn:9<=n):∀(k:Nat) (t:Tr),t.size<=k->t.ok->t.deep<=3->Fw (bV (jn n) t).1 (t.deep+1)/\(∀op a b,t=.bin op a b->(∀p∈(bV (jn n) t).2.1::(bV (jn n) t).2.2,Fw p t.deep)/\Sep false (bV (jn n) t).2.2):=by
 intro k
 induction k with
 |zero=>intro t h;cases t<;>simp[Tr.size] at h
 |succ k ih=>
  intro t hk ho hd;have parts:∀(o:List Nat) (ts:List Tr) (e:List Nat),Tr.sizes ts<=k->ts.length<=3->Tr.j9 ts->Tr.eN ts+1<=3->Fw (iJ (jn n) o (dH (jn n) ts) e) (Tr.eN ts+1+1):=λo ts e h3 h4 h5 h6=>by
   refine KB hn (by omega) (by omega) o e (by rw[jO,length_map];exact h4) λp hp=>?_
   rw[jO] at hp
   obtain⟨u,hu,rfl⟩:=List.mem_map.mp hp;have hd':=uJ hu;exact(ih u (le_trans (wu hu) h3) (su h5 hu) (by omega)).1.mono (by omega)
  cases t with
  |name s=>rw[bV];exact⟨tK _,λ_ _ _ z=>nomatch z⟩
  |num m=>rw[bV];exact⟨tK _,λ_ _ _ z=>nomatch z⟩
  |call s ts=>
   rw[Tr.ok] at ho
   rw[bV];rw[Tr.size] at hk
   exact⟨parts _ ts _ (by omega) ho.2.1 ho.2.2 hd,λ_ _ _ z=>nomatch z⟩
  |row ts=>
   rw[Tr.ok] at ho
   rw[bV];rw[Tr.size] at hk
   exact⟨parts _ ts _ (by omega) ho.1 ho.2 hd,λ_ _ _ z=>nomatch z⟩
  |bin op a b=>
   rw[Tr.ok] at ho
   rw[Tr.size] at hk
   have hd':max a.deep b.deep+1<=3:=hd;obtain⟨a1,a2⟩:=ih a (by omega) ho.2.1 (by omega);obtain⟨b1,_⟩:=ih b (by omega) ho.2.2 (by omega);have hl:=wk (jn n) a;have hc:((∀p∈(bZ (jn n) op a).1::(bZ (jn n) op a).2,Fw p (max a.deep b.deep+1))/\Sep false (bZ (jn n) op a).2)/\(bZ (jn n) op a).2.length<=6:=by
    unfold bZ
    split
    ·rename_i e
     cases a with
     |bin op' x y=>exact⟨⟨λp hp=>((a2 op' x y rfl).1 p hp).mono (by omega),(a2 op' x y rfl).2⟩,by omega⟩
     |_=>cases e
    ·refine⟨⟨λp hp=>?_,trivial⟩,zero_le _⟩
     rw[List.mem_singleton.mp hp];exact Xq hn (by omega) (by omega) _ (a1.mono (by omega))
   have hsep:Sep false ((bZ (jn n) op a).2++dj (jn n) op b):=hc.1.2.app (.inr (.inl ⟨.inl rfl,.inl ⟨⟨_,rfl⟩,.inr (.inr ⟨rfl,trivial⟩)⟩⟩));have hall:∀p∈(bZ (jn n) op a).1::((bZ (jn n) op a).2++dj (jn n) op b),Fw p (max a.deep b.deep+1):=λp hp=>by
    rw[<-cons_append] at hp
    rcases List.mem_append.mp hp with hp|hp
    ·exact hc.1.1 p hp
    ·have hp:p∈[.line,.text [op,32],f7 (jn n) (fK op) b (bh (jn n) b)]:=hp
     simp only[mem_cons,not_mem_nil,or_false] at hp
     rcases hp with rfl|rfl|rfl
     ·exact Kx.mono (by omega)
     ·exact(tK _).mono (by omega)
     ·exact Xq hn (by omega) (by omega) _ (b1.mono (by omega))
   rw[p7];refine⟨?_,λ_ _ _ _=>⟨hall,hsep⟩⟩;have le:((bZ (jn n) op a).2++dj (jn n) op b).length=(bZ (jn n) op a).2.length+3:=by rw[length_append];rfl
   obtain⟨f1,f2⟩:=wY (max a.deep b.deep+1) (by omega) (by omega) n ((bZ (jn n) op a).2++dj (jn n) op b) (by omega) (by omega) hsep.weak λp hp=>⟨(hall p (mem_cons_of_mem _ hp)).sm,(hall p (mem_cons_of_mem _ hp)).le⟩
   have z:aR (jn n ((bZ (jn n) op a).2++dj (jn n) op b))=0:=by
    have e:=CJ n ((bZ (jn n) op a).2++dj (jn n) op b) (by omega) (by omega);have e2:=Xm ((bZ (jn n) op a).2++dj (jn n) op b) (0,1) (.inr ⟨.line,mem_append_right _ mem_cons_self,rfl⟩);rw[<-e] at e2
    exact e2
   have f:=Xn 2 (⟨f1,f2⟩:Fw (jn n ((bZ (jn n) op a).2++dj (jn n) op b)) (max a.deep b.deep+1));obtain⟨m,rfl⟩:∃m,n=m+2:=⟨n - 2,by omega⟩;have ej:∀x y:Plan,jn (m+2) [x,y]=.beside x y:=λx y=>by rw[rO (m+1) (ps:=[x,y]) (le_refl 2),show[x,y].length / 2=1 by simp];rfl
   show Fw (grp _) (max a.deep b.deep+1+1);rw[ej];refine Xp (by omega) ?_;obtain⟨e1,e2⟩:=Xk (bZ (jn (m+2)) op a).1 (.nest 2 (jn (m+2) ((bZ (jn (m+2)) op a).2++dj (jn (m+2)) op b)));obtain⟨e3,e4⟩:=Xj 2 (jn (m+2) ((bZ (jn (m+2)) op a).2++dj (jn (m+2)) op b));rw[e4,z] at e1 e2
   rw[e3] at e1
   have tt:aA (.beside (bZ (jn (m+2)) op a).1 (.nest 2 (jn (m+2) ((bZ (jn (m+2)) op a).2++dj (jn (m+2)) op b))))+aR (.beside (bZ (jn (m+2)) op a).1 (.nest 2 (jn (m+2) ((bZ (jn (m+2)) op a).2++dj (jn (m+2)) op b))))<=max a.deep b.deep+1:=by
    rw[e1,e2];omega
   refine⟨⟨(hall _ mem_cons_self).sm,f.sm,?_⟩,tt⟩;have g:=JG (.beside (bZ (jn (m+2)) op a).1 (.nest 2 (jn (m+2) ((bZ (jn (m+2)) op a).2++dj (jn (m+2)) op b))));have g:tot (.beside _ _)=_:=g;rw[g];omega
structure JK(CN C:Addr)(H:Hp)(g:Gh)(Ks:List Ent)(i c m:Nat)(a:Nd)(t W:Addr)(n:Nat)(σ:St)(H':Hp)(G:List (cV×iK))(ws:List Addr)(bH:List Ent):Prop where
 uO:∃v6 v7:Option V,σ=[some (.ref g.s),some (.int (i:Nat)),some (.int (c:Nat)),some (.int (m:Nat)),some (.ref t),some (.ref W),v6,v7]
 n_:n=mq g.w G
 le:n<=16000000
 at_:eO CN C H' g bH
 sub:∀e∈Ks,e∈bH
 but:cB g.kn H H'
 atW:H' W=some (.lst (ws.map V.ref))
 sG:Paired (gZ H' g.T) ws (G.map (·.1)).reverse
 good:∀p∈G,Good g.w g.U p.1
 stk:jR g.T bH (Kn g.T bH) G
 want:Kn g.T bH (bB a c m)\/bB a c m∈G.map (·.1)
 spot:gZ H' g.T t (bB a c m)
theorem Kn.mono  (h:∀e∈Ks,e∈bH) : Kn T Ks x->Kn T bH x:=λ⟨e,he,q⟩=>⟨e,h e he,q⟩
theorem KF  (F:cA K "ends_of" "Search.ends_of" vY f fd)(T:kZ K mg C)(SP:MO P w K mg base C aB 1 fS sD "spot_of" lE (uR CN C))
  (MM:MO P w K mg base C aB 2 fM mD "missing_for" ["self","spot"] (Cr CN C)) (WO:MO P w K mg base C aB 4 fW wD "worked_out" ["self","spot"] (Cv CN C)):aH P w K mg base aB 5 f fd lE (uT CN C false):=by
 refine F.cU Cm (λvs H Q E h=>?_) (λcdv A outer s H vs Q E hr h=>?_)
 ·obtain⟨g,Ks,i,c,m,a,rfl,_⟩:=h
  rfl
 obtain⟨g,Ks,i,c,m,a,rfl,S,hi,hsm,hU,hcw,_,q⟩:=h;have nd:=Cm.nd;have hr1:cZ 1 _:=hr.mono (by decide);have hr2:cZ 2 _:=hr.mono (by decide);have hu1:=hr.units;have hu:(A.deeper (PyProof.Rows.envOfC "Search.ends_of" (cg vY) s.heap.objs.size f cdv)).units+1<cLine:=by omega
 refine⟨_,au (aO (i:=4) nd rfl (Or.inl rfl) (dU (a6 0) T.cl SP.m SP.ok hr1 SP.b .nil aU (aq (a6 1) (aq (a6 2) (aq (a6 3) a7)))))<|
  au (aO (i:=5) nd rfl (Or.inl rfl) (cX (aq (a6 4) a7)))<|
  au (nT PassesOwn.never (nY (a6 5) (λ_=>rfl)) (
   au (aO (i:=6) nd rfl (Or.inl rfl) (aF gK (a6 5) (uy uc ak) (λ_ _=>rfl)))<|
   au (aO (i:=7) nd rfl (Or.inl rfl) (jL (jZ (Gf hu (a6 6) (dY (a6 0) rfl))) (cX a7) (dU (a6 0) T.cl MM.m MM.ok hr2 MM.b .nil aU (aq (a6 6) a7))))<|
   au (cN (nY (a6 7) (λ_=>rfl)) (au (fZ (gG plainAttrs_list slot_list_extend type_list_extend qZ (a6 5) (aq (a6 7) a7))) (aL FJ)) cW)<|
   au (fZ (uE plainAttrs_list slot_list_pop type_list_pop uq (a6 5)))<|
   aL (cN (jZ (yR hu (a6 6) (dY (a6 0) rfl))) (aL (yS hu (dY (a6 0) rfl) (a6 6) (Bq (dU (a6 0) T.cl WO.m WO.ok hr WO.b .nil aU (aq (a6 6) a7))) rfl)) cW)))<|
  aL (bx (qm hu (dY (a6 0) rfl) (a6 4) (λ_ _=>rfl))),?_⟩
 obtain⟨dx,ho⟩:=S.ob;have CP:=S.kn;refine⟨_,rfl,g.s,dx,_,rfl,ho,gY _ _ _ ⋯ ⋯ ⋯,_,rfl,_,rfl,_,rfl,g.s,g.n,g.la,g.na,g.ga,g.kn,dx,g.T,g.L,g.w,i,c,m,a,rfl,ho,S.no,hi,λt H1 s1 n1 ht=>?_⟩;refine⟨_,rfl,aC,λW hW=>?_⟩;have s2:=ao hW (.lst [.ref t]);have nW:H W=none:=s1.free hW;have uZ:W≠g.la:=λz=>by obtain⟨as,hla,_⟩:=S.no.li;rw[z,hla] at nW;cases nW
 have vd:W≠g.ga:=λz=>by rw[z,S.no.le] at nW;cases nW
 have A8:W≠g.kn:=λz=>by rw[z,CP] at nW;cases nW
 have KG:Good g.w g.U (bB a c m):=A5 hsm hU hcw;have KI:mq g.w [(bB a c m,iK.A)]=cw g.w a c m:=by
  show cw g.w _ _ _+0=_;rw[Cy];rfl
 refine⟨λn σ H'=>∃G ws bH,JK CN C H g Ks i c m a t W n σ H' G ws bH,⟨mq g.w [(bB a c m,iK.A)],[(bB a c m,iK.A)],[t],Ks, ?init⟩, ?turn⟩
 case init=>
  refine⟨⟨_,_,rfl⟩,rfl,by rw[KI];exact hcw,S.mono (s1.trans s2),λe he=>he,cB.of (s1.trans s2),a8,.cons (ht.mono (.of s2)) .nil,λp hp=>by rw[List.mem_singleton.mp hp];exact KG,⟨trivial,trivial⟩,.inr (by simp),ht.mono (.of s2)⟩
 case turn=>
  rintro n σ H' ⟨G,ws,bH,I⟩
  obtain⟨v6,v7,rfl⟩:=I.uO;refine⟨_,rfl,_,.inl ⟨_,aG.of I.atW,rfl⟩,?_⟩;obtain⟨ug,ho'⟩:=I.at_.ob;cases G with
  |nil=>
   have ew:ws=[]:=by have:=I.sG;cases this;rfl
   subst ew;refine aP (by simp) ?_;have hk:Kn g.T bH (bB a c m):=by rcases I.want with z|z;exact z;cases z
   rcases qM I.at_ (Same.refl _) I.spot with⟨e,he,ha,hg⟩|⟨hn,_⟩
   ·have ok0:=I.at_.ok e he
    refine⟨_,rfl,g.s,C,ug,_,_,rfl,ho',T.cl,T.lu,mj _ _ _,_,rfl,g.kn,_,rfl,hg,?_⟩;have h3:=I.at_.book.ends e he _ ha.1;have e2:e.c=c:=ha.2.1;have e3:e.m=(eF a c m).2:=ha.2.2;rw[e2,e3] at h3
    exact q e.d e.o e.E bH H' I.at_ I.sub I.but ok0.d6 (Cj a c m h3) ok0.len (λz=>by cases z)
   ·exact absurd hk hn
  |cons p rst=>
   obtain⟨x,sg⟩:=p;obtain⟨ys,tx,ex,hys,hx⟩:∃ys tx,ws=ys++[tx]/\Paired (gZ H' g.T) ys (rst.map (·.1)).reverse/\gZ H' g.T tx x:=by
    have z:=I.sG;rw[map_cons,reverse_cons] at z
    exact rR z
   subst ex;refine cG (by simp) ?_;have gx:=I.good _ mem_cons_self;have hc:=I.stk.1;have hst:=I.stk.2;have hle:=I.le;have hn:=I.n_;have hrp:=Xa g.w x sg;have hsr:mq g.w ((x,sg)::rst)=rem g.w x sg+mq g.w rst:=rfl;have zj:dN ((ys++[tx]).map V.ref) (-1)=some (.ref tx):=by rw[map_append];exact oQ _ _
   refine⟨λσ' fQ=>∃n',n'<n/\∃G ws bH,JK CN C H g Ks i c m a t W n' σ' fQ G ws bH,λ_ _ z=>z,?_⟩;refine⟨_,rfl,_,rfl,W,_,_,.ref tx,rfl,rfl,aG.of I.atW,zj,?_⟩;have CQ:((ys++[tx]).map V.ref).dropLast=ys.map V.ref:=by rw[map_append];exact dropLast_concat
   have CT:((ys++[tx]).map V.ref)[((ys++[tx]).map V.ref).length - 1]? = some (.ref tx):=by simp
   have popped:∀(H5:Hp) (qO:List Ent) (v6 v7:Option V),eO CN C H5 g qO->(∀e∈bH,e∈qO)->cB g.kn H H5->H5 W=some (.lst (ys.map V.ref))->bQ H' H5->Kn g.T qO x->∃n',n'<n/\∃G ws bH,JK CN C H g Ks i c m a t W n' [some (.ref g.s),some (.int (i:Nat)),some (.int (c:Nat)),some (.int (m:Nat)),some (.ref t),some (.ref W),v6,v7] H5 G ws bH:=λH5 qO v6 v7 S5 CV b5 w5 t5 k5=>by
    refine⟨mq g.w rst,by omega,rst,ys,qO,⟨_,_,rfl⟩,rfl,by omega,S5,λe he=>CV e (I.sub e he),b5,w5,Paired.gJ hys λ_ _ z=>z.mono t5,λp hp=>I.good p (mem_cons_of_mem _ hp),jR.mono CV (λy hy=>?_) hst,?_,I.spot.mono t5⟩
    ·rcases hy with z|rfl
     ·exact z.mono CV
     ·exact k5
    ·rcases I.want with z|z
     ·exact .inl (z.mono CV)
     ·rcases List.mem_cons.mp z with e|z
      ·exact .inl (by rw[e];exact k5)
      ·exact .inr z
   refine⟨_,rfl,_,rfl,g.s,C,ug,_,_,rfl,ho',T.cl,T.lu,mj _ _ _,?_⟩;rcases qM I.at_ (Same.refl _) hx with⟨e,he,ha,hg⟩|⟨hnk,hg⟩
   ·
    refine⟨g.kn,_,rfl,hg,_,rfl,cG rfl ⟨aC,λM hM=>?_⟩⟩;have s4:=ao hM (.lst []);refine⟨_,rfl,_,.inl ⟨_,aG.of a8,rfl⟩,aP (by intro z;cases z) ?_⟩;have w4:=s4 _ _ I.atW;have S4:=I.at_.mono s4;have b4:cB g.kn H (upd H' M (.lst [])):=I.but.trans (cB.of s4);have t4:bQ H' (upd H' M (.lst [])):=.of s4
    generalize upd H' M (.lst [])=H4 at s4 w4 S4 b4 t4
    refine⟨_,rfl,.inl ⟨rfl,_,aG.of w4⟩,W,_,_,rfl,rfl,w4,CT,?_⟩;rw[CQ];have S5:=S4.list w4 uZ vd (ys.map V.ref);have b5:cB g.kn H (upd H4 W (.lst (ys.map V.ref))):=λx ob e hx=>by rw[aJ (c6 e nW)];exact b4 _ _ e hx
    have t5:bQ H' (upd H4 W (.lst (ys.map V.ref))):=t4.trans (dX w4);have w5:(upd H4 W (.lst (ys.map V.ref))) W=some (.lst (ys.map V.ref)):=a8
    generalize upd H4 W (.lst (ys.map V.ref))=H5 at S5 b5 t5 w5
    obtain⟨wZ,x5⟩:=S5.ob;rcases qM S5 (Same.refl _) (hx.mono t5) with⟨e',he',ha',hg'⟩|⟨hn',_⟩
    ·refine⟨_,rfl,_,rfl,g.s,C,wZ,_,_,rfl,x5,T.cl,T.lu,mj _ _ _,g.kn,_,rfl,hg',_,rfl,aP (by intro z;cases z) ?_⟩
     exact popped H5 bH _ _ S5 (λe he=>he) b5 w5 t5 ⟨e,he,ha⟩
    ·exact absurd ⟨e,he,ha⟩ hn'
   ·refine⟨g.kn,_,rfl,hg,_,rfl,aP (by intro z;cases z) ?_⟩
    refine⟨_,rfl,g.s,ug,_,rfl,ho',gY _ _ _ ⋯ ⋯ ⋯,_,rfl,?_⟩;refine⟨g,bH,tx,x,rfl,I.at_,hx,gx.1,λM tms ms H4 s4 n4 e4 P4 hms=>?_⟩;have w4:=s4 _ _ I.atW;have S4:=I.at_.mono s4;have b4:cB g.kn H H4:=I.but.trans (cB.of s4);have t4:bQ H' H4:=.of s4;have hml:=Paired.length P4;have nMW:M≠W:=λz=>by rw[z,I.atW] at n4;cases n4
    refine⟨_,rfl,_,.inl ⟨_,aG.of e4,rfl⟩,?_⟩;cases hmn:ms with
    |nil=>
     subst hmn;have KL:tms=[]:=by cases P4;rfl
     subst KL;refine aP (by intro z;cases z) ?_;refine⟨_,rfl,.inl ⟨rfl,_,aG.of w4⟩,W,_,_,rfl,rfl,w4,CT,?_⟩;rw[CQ];have S5:=S4.list w4 uZ vd (ys.map V.ref);have b5:cB g.kn H (upd H4 W (.lst (ys.map V.ref))):=λx ob e hx=>by rw[aJ (c6 e nW)];exact b4 _ _ e hx
     have t5:bQ H' (upd H4 W (.lst (ys.map V.ref))):=t4.trans (dX w4);have w5:(upd H4 W (.lst (ys.map V.ref))) W=some (.lst (ys.map V.ref)):=a8
     generalize upd H4 W (.lst (ys.map V.ref))=H5 at S5 b5 t5 w5
     obtain⟨wZ,x5⟩:=S5.ob;have JL:=hx.mono t5;rcases qM S5 (Same.refl _) JL with⟨e',he',ha',hg'⟩|⟨hn',hg'⟩
     ·exact absurd ⟨e',he',ha'⟩ hnk
     ·refine⟨_,rfl,_,rfl,g.s,C,wZ,_,_,rfl,x5,T.cl,T.lu,mj _ _ _,g.kn,_,rfl,hg',_,rfl,cG rfl ?_⟩
      refine⟨_,rfl,g.s,wZ,_,rfl,x5,gY _ _ _ ⋯ ⋯ ⋯,_,rfl,?_⟩;refine⟨g,bH,tx,x,rfl,S5,JL,gx.1,gx.2.1,gx.2.2.1,gx.2.2.2,JU hms,λd E6 H6 s6 n6 e6 KM l6=>?_⟩;refine⟨d,_,rfl,e6,λo6=>?_⟩;obtain⟨ix,hix,hin⟩:=JL;have S6:=S5.mono s6;have Xr:=s6 _ _ hix;obtain⟨Xu,ho6⟩:=S6.ob;have tL:=S6.kn;have Xv:g.s≠d:=cR ho6 e6 (by intro z;cases z);have Xw:g.kn≠d:=cR tL e6 (by intro z;cases z);have KO:tx≠d:=cR Xr e6 (by intro z;cases z);have kl:=HV S6;have kun:=S6.un;have hvn:gO (bH.map jo) (nJ ix x.2.1 x.2.2)=none:=by
       rcases WX S6 (c:=x.2.1) (m:=x.2.2) hin with⟨e',he',ha',_⟩|⟨_,z⟩
       ·exact absurd ⟨e',he',ha'⟩ hnk
       ·exact z
      refine⟨_,rfl,g.s,C,Xu,_,_,rfl,(by rw[aJ Xv];exact ho6),T.cl,T.lu,mj _ _ _,_,rfl,g.kn,_,rfl,nq.t (k:=nJ ix x.2.1 x.2.2) (by rw[aJ Xw];exact tL) (by rw[aJ KO];exact Xr) (lt_of_lt_of_le (show(bH.map jo).length<16000001 by rw[length_map];omega) (d4 (by omega))),?_⟩;rw[Uq _ hvn];have KP:bH.map jo++[(nJ ix x.2.1 x.2.2,V.ref d)]=(bH++[Ent.mk ix x.2.1 x.2.2 d o6 E6]).map jo:=by rw[map_append];rfl
      rw[KP];have nn:∀ {b:Addr} {ob:HO},H6 b=some ob->b≠g.kn->b≠d->(upd (upd H6 d (.d6 o6 (.dK (cL E6)))) g.kn (.dT ((bH++[Ent.mk ix x.2.1 x.2.2 d o6 E6]).map jo))) b=some ob:=λe h1 h2=>by rw[aJ h1,aJ h2];exact e
      have t7:bQ H6 (upd (upd H6 d (.d6 o6 (.dK (cL E6)))) g.kn (.dT ((bH++[Ent.mk ix x.2.1 x.2.2 d o6 E6]).map jo))):=λb xs e=>nn e (cR e tL (by intro z;cases z)) (cR e e6 (by intro z;cases z))
      have kna:=S.Jm;have S7:eO CN C (upd (upd H6 d (.d6 o6 (.dK (cL E6)))) g.kn (.dT ((bH++[Ent.mk ix x.2.1 x.2.2 d o6 E6]).map jo))) g (bH++[Ent.mk ix x.2.1 x.2.2 d o6 E6]):=by
       obtain⟨_,h2,h3,h4,h5,h6,h7⟩:=S6;obtain⟨⟨iZ,g1⟩,⟨as,g2,g3⟩,g4,g5,g6,g7⟩:=h2;refine⟨⟨Xu,nn ho6 (cR ho6 tL (by intro z;cases z)) Xv⟩,⟨⟨iZ,nn g1 (cR g1 tL (by intro z;cases z)) (cR g1 e6 (by intro z;cases z))⟩,⟨as,nn g2 (cR g2 tL (by intro z;cases z)) (cR g2 e6 (by intro z;cases z)),g3.mono t7⟩,nn g4 kna.symm (cR g4 e6 (by intro z;cases z)),nn g5 (cR g5 tL (by intro z;cases z)) (cR g5 e6 (by intro z;cases z)),g6,g7⟩,a8,?_,λe he=>?_,h6,h7⟩
       ·rw[map_append]
        refine Uw h4 λz=>?_
        obtain⟨e',he',ee⟩:=List.mem_map.mp z;have ee:(e'.i,e'.c,e'.m)=(ix,x.2.1,x.2.2):=ee;have e1:e'.i=ix:=congrArg (·.1) ee;have e2:e'.c=x.2.1:=congrArg (·.2.1) ee;have e3:e'.m=x.2.2:=congrArg (·.2.2) ee;exact hnk ⟨e',he',by rw[e1];exact hin,e2,e3⟩
       ·rcases List.mem_append.mp he with z|z
        ·have ok0:=h5 e z
         exact⟨ok0.at_,nn ok0.d6 (cR ok0.d6 tL (by intro z;cases z)) (cR ok0.d6 e6 (by intro z;cases z)),ok0.len⟩
        ·rw[List.mem_singleton.mp z]
         refine⟨⟨x.1,hin,?_,KM⟩,by rw[aJ Xw.symm,a8],l6⟩;have:=gx.2.2.1 _ (HH g.w x.1 x.2.1 x.2.2);rw[HG gx.1] at this
         exact this
      have w7:(upd (upd H6 d (.d6 o6 (.dK (cL E6)))) g.kn (.dT ((bH++[Ent.mk ix x.2.1 x.2.2 d o6 E6]).map jo))) W=some (.lst (ys.map V.ref)):=nn (s6 _ _ w5) A8 (cR (s6 _ _ w5) e6 (by intro z;cases z));have b7:cB g.kn H (upd (upd H6 d (.d6 o6 (.dK (cL E6)))) g.kn (.dT ((bH++[Ent.mk ix x.2.1 x.2.2 d o6 E6]).map jo))):=λb ob e hb=>nn (s6 _ _ (b5 _ _ e hb)) hb (λz=>by rw[z] at e hb;have:=b5 _ _ e hb;rw[n6] at this;cases this)
      exact popped _ (bH++[Ent.mk ix x.2.1 x.2.2 d o6 E6]) _ _ S7 (λe he=>mem_append_left _ he) b7 w7 (t5.trans ((bQ.of s6).trans t7)) ⟨_,mem_append_right _ (List.mem_singleton.mpr rfl),hin,rfl,rfl⟩
    |cons y0 r0=>
     have hne:ms≠[]:=by rw[hmn];intro z;cases z
     have htn:tms≠[]:=λz=>by rw[z,hmn] at hml;cases hml
     refine cG (by cases tms with|nil=>exact absurd rfl htn|cons _ _=>rfl) ?_;obtain⟨st',c',lt'⟩:=JY (x:=x) (st:=sg) I.at_.book hms hne hc;have KS:=JP I.at_.book gx hms;have hsum:((ms.reverse).map λy=>cw g.w y.1 y.2.1 y.2.2).sum=(ms.map λy=>cw g.w y.1 y.2.1 y.2.2).sum:=by rw[map_reverse,List.sum_reverse]
     have hnew:mq g.w (ms.reverse.map (λx=>(x,iK.A))++(x,st')::rst)<n:=by
      rw[JI,hsum];have lt':(ms.map λy=>cw g.w y.1 y.2.1 y.2.2).sum+rem g.w x st'<rem g.w x sg:=lt';show _+(rem g.w x st'+mq g.w rst)<n;omega
     have hwl:=JB g.w ((x,sg)::rst);have hnl:=JB g.w (ms.reverse.map (λx=>(x,iK.A))++(x,st')::rst);rw[length_append,length_map,length_reverse,length_cons] at hnl
     have hyl:=Paired.length hys;rw[length_reverse,length_map] at hyl
     refine⟨_,rfl,.inl ⟨rfl,_,aG.of w4⟩,_,rfl,W,M,_,_,rfl,rfl,w4,e4,le_trans (show((ys++[tx]).map V.ref).length+(tms.map V.ref).length<=16000001 by rw[length_map,length_append,length_map,length_singleton];omega) (d4 (by omega)),?_⟩;have u5:bQ H4 (upd H4 W (.lst ((ys++[tx]).map V.ref++tms.map V.ref))):=dX w4;have S5:=S4.list w4 uZ vd ((ys++[tx]).map V.ref++tms.map V.ref);refine⟨_,hnew,ms.reverse.map (λx=>(x,iK.A))++(x,st')::rst,(ys++[tx])++tms,bH,⟨_,_,rfl⟩,rfl,by omega,S5,I.sub,λb ob e hb=>by rw[aJ (c6 e nW)];exact b4 _ _ e hb,by rw[a8,map_append (l₁:=ys++[tx])],?_,λp hp=>?_,jR.push _ ⟨c'.mono (λ_ z=>z) (λy hy=>hy.elim .inl (λz=>.inr (List.mem_reverse.mpr z))),jR.mono (λ_ z=>z) (λy hy=>hy.elim (λz=>.inl (.inl z)) .inr) hst⟩,?_,(I.spot.mono t4).mono u5⟩
     ·have er:((ms.reverse.map (λx=>(x,iK.A))++(x,st')::rst).map (·.1)).reverse=((rst.map (·.1)).reverse++[x])++ms:=by
       rw[map_append,map_map,reverse_append,map_cons,reverse_cons]
       congr 1
       have:(ms.reverse.map ((·.1)∘λx=>(x,iK.A)))=ms.reverse:=by
        conv=>rhs;rw[<-map_id ms.reverse]
        rfl
       rw[this,reverse_reverse]
      rw[er];exact iU (iU (Paired.gJ hys λ_ _ z=>(z.mono t4).mono u5) (.cons ((hx.mono t4).mono u5) .nil)) (Paired.gJ P4 λ_ _ z=>z.mono u5)
     ·rcases List.mem_append.mp hp with z|z
      ·obtain⟨y,hy,rfl⟩:=List.mem_map.mp z
       exact KS y (List.mem_reverse.mp hy)
      ·rcases List.mem_cons.mp z with rfl|z
       ·exact gx
       ·exact I.good p (mem_cons_of_mem _ z)
     ·rcases I.want with z|z
      ·exact .inl z
      ·refine .inr ?_
       rw[map_append];exact mem_append_right _ z
def ou(H:Hp)(T:List Raw)(t:Addr)(p:Nd×Nat):Prop:=∃i:Nat,H t=some (.tup [.int ((i:Nat):Int),.int ((p.2:Nat):Int)])/\cj T i p.1
theorem ou.mono  (h:bQ H H'){t:Addr}{p:Nd×Nat}:ou H T t p->ou H' T t p:=λ⟨i,e,q⟩=>⟨i,h _ _ e,q⟩
theorem eO.dk  {g:Gh} (S:eO CN C H g Ks){d:Addr}{kvs:List (Key×V)}(w:H d=some (.dK kvs))(o:HO):eO CN C (upd H d o) g Ks:=by
 obtain⟨⟨dx,h1⟩,⟨⟨iZ,g1⟩,⟨as,g2,g3⟩,g4,g5,g6,g7⟩,h3,h4,h5,h6,h7⟩:=S;have nn:∀ {b:Addr} {ob:HO},H b=some ob->b≠d->(upd H d o) b=some ob:=λe h=>by rw[aJ h];exact e
 have tp:bQ H (upd H d o):=λb xs e=>nn e (cR e w (by intro z;cases z))
 exact⟨⟨dx,nn h1 (cR h1 w (by intro z;cases z))⟩,⟨⟨iZ,nn g1 (cR g1 w (by intro z;cases z))⟩,⟨as,nn g2 (cR g2 w (by intro z;cases z)),g3.mono tp⟩,nn g4 (cR g4 w (by intro z;cases z)),nn g5 (cR g5 w (by intro z;cases z)),g6,g7⟩,nn h3 (cR h3 w (by intro z;cases z)),h4,
  λe he=>⟨(h5 e he).at_,nn (h5 e he).d6 (cR (h5 e he).d6 w (by intro z;cases z)),(h5 e he).len⟩,h6,h7⟩
inductive A9(CN C:Addr)(vs:List V)(H:Hp)(Q:VK)(E':XK):Prop
 |mk (g:Gh) (Ks:List Ent) (l:Addr) (ts:List Addr) (q:Sq) (c:Nat) (z0:vs=[.ref g.s,.ref l,.int (c:Nat)]) (z1:eO CN C H g Ks) (z2:H l=some (.lst (ts.map V.ref))) (z3:Paired (ou H g.T) ts q.reverse) (z4:h8 g.w g.U q c) (z5:∀(k:Nat) (bH:List Ent) (H':Hp),eO CN C H' g bH->cB g.kn H H'->Least (cY g.w q c) k->Q (.int (k:Nat)) H'):A9 CN C vs H Q E'
inductive CW(CN C:Addr)(vs:List V)(H:Hp)(Q:VK)(E':XK):Prop
 |mk (g:Gh) (Ks:List Ent) (t l:Addr) (i j:Nat) (a b:Nd) (ts:List Addr) (r:Sq) (m c k:Nat) (z0:vs=[.ref g.s,.ref t,.int (m:Nat),.ref l,.int (c:Nat),.int (k:Nat)]) (z1:eO CN C H g Ks) (z2:lX H t (.choice i j)) (z3:cj g.T i a) (z4:cj g.T j b) (z5:H l=some (.lst (ts.map V.ref))) (z6:ts.length<=16000000) (z7:Paired (ou H g.T) ts r.reverse) (z8:h8 g.w g.U ((a,m)::r) c) (z9:Least (cY g.w ((.choice a b,m)::r) c) k) (KU:(∀(bH:List Ent) (H':Hp),eO CN C H' g bH->cB g.kn H H'->Least (cY g.w ((a,m)::r) c) k->Q (.int 0) H')) (KW:(∀(bH:List Ent) (H':Hp),eO CN C H' g bH->cB g.kn H H'->Least (cY g.w ((b,m)::r) c) k->(∀o∈cY g.w ((a,m)::r) c,k<o.2.2)->Q (.int 1) H')):CW CN C vs H Q E'
theorem Xx:cQ ["self","waiting","column","ends","step"] ["self","waiting","column"] (cg Ib):=⟨rfl,rfl,rfl, ⋯,rfl, ⋯, ⋯⟩
theorem Lc{fH:Addr} (F:cA K "least_cost" "Search.least_cost" Ib f fd)(T:kZ K mg C)(BE:MO P w K mg base C aB 6 fH hD "ends_behind" uU (wU CN C false)):aH P w K mg base aB 7 f fd ["self","waiting","column"] (A9 CN C):=by
 refine F.cU Xx (λvs H Q E h=>?_) (λcdv A outer s H vs Q E hr h=>?_)
 ·obtain⟨g,Ks,l,ts,q,c,rfl,_⟩:=h
  rfl
 obtain⟨g,Ks,l,ts,sq,c,rfl,S,hl,hts,hok,q⟩:=h;have nd:=Xx.nd
 refine⟨_,au (aO (i:=3) nd rfl (Or.inl rfl) (Bq (Gi (Gg (a6 2) ak Gb) rfl rfl (by intro z;cases z) (by decide))))<|
  au (lK PassesOwn.never rfl (Bf rfl T.rev (aq (a6 1) a7)) (jX (i:=4) nd rfl (Or.inl rfl)) (
   aL (aO (i:=3) nd rfl (Or.inl rfl) (Bq (dU (a6 0) T.cl BE.m BE.ok hr BE.b .nil aU (aq (a6 3) (cF (aF aN (a6 4) ak (λ_ _=>rfl)) (cF (aF aN (a6 4) ak (λ_ _=>rfl)) a7))))))))<|
  aL (bx (j4 (AC rfl) rfl T.min ⋯ (dw (AZ (a6 3)) a7))),?_⟩
 have hkn:=S.kn;have Lv:l≠g.kn:=cR hl hkn (by intro z;cases z);have rev:Paired (ou H g.T) ts.reverse sq:=by
  have z:=Bx hts
  rwa [reverse_reverse] at z
 have hlen:(ts.map V.ref).length=sq.length:=by rw[length_map];have:=Paired.length rev;rwa [length_reverse] at this
 intro p hp;have s1:=ao hp (.dK []);refine⟨_,rfl,a8,[(.inl ((c:Nat):Int),.int ((0:Nat):Int))],rfl,(by show 1<=15;decide),?_⟩;rw[Jw];have s2:Same H (upd (upd H p (.dK [])) p (.dK (cL [(c,0)]))):=k6 s1 hp _;have e2:(upd (upd H p (.dK [])) p (.dK (cL [(c,0)]))) p=some (.dK (cL [(c,0)])):=a8
 generalize upd (upd H p (.dK [])) p (.dK (cL [(c,0)]))=H2 at s2 e2
 refine⟨p,_,rfl,e2,λo2=>?_⟩;have s3:Same H (upd H2 p (.d6 o2 (.dK (cL [(c,0)])))):=λb ob e=>by rw[aJ (c6 e hp)];exact s2 _ _ e
 have S3:eO CN C (upd H2 p (.d6 o2 (.dK (cL [(c,0)])))) g Ks:=(S.mono s2).dk e2 _;have e3:(upd H2 p (.d6 o2 (.dK (cL [(c,0)])))) p=some (.d6 o2 (.dK (cL [(c,0)]))):=a8
 generalize upd H2 p (.d6 o2 (.dK (cL [(c,0)])))=H3 at s3 S3 e3
 refine⟨_,rfl,l,_,rfl,aG.of (s3 _ _ hl),B9 (K:=K) (a:=l) (xs:=ts.map V.ref) (λj σ H4=>∃(v4:Option V) (d:Addr) (o:Obj) (E:Es) (bH:List Ent),σ=[some (.ref g.s),some (.ref l),some (.int (c:Nat)),some (.ref d),v4]/\eO CN C H4 g bH/\cB g.kn H H4/\H4 d=some (.d6 o (.dK (cL E)))/\dI g.w (sq.take j) c E/\E.length<=64)
  ⟨_,p,o2,[(c,0)],Ks,rfl,S3,cB.of s3,e3,by rw[take_zero];exact dI.zero g.w c,by simp⟩ (λj σ H4 _ ⟨_,_,_,_,_,_,_,b,_⟩=>aG.of (b _ _ hl Lv)) ?_ ?_⟩
 ·rintro j x σ H4 hx ⟨v4,d,o,E,bH,rfl,S4,b4,hd,hE,Xy⟩
  rw[<-map_reverse] at hx
  obtain⟨t,⟨a,m⟩,rfl,JM,i,hti,hi⟩:=wW rev hx;have t4:bQ H H4:=Ck b4 hkn;have Xz:=t4 _ _ hti;obtain⟨dx,ho⟩:=S4.ob;have LA:=Xc hok.reach JM;have hi:cj g.T i a:=hi;have etk:sq.take (j+1)=sq.take j++[(a,m)]:=zk3 JM;refine⟨_,rfl,g.s,dx,_,rfl,ho,gY _ _ _ ⋯ ⋯ ⋯,_,rfl,_,rfl,t,_,_,.int (i:Nat),rfl,rfl,a9.of Xz,rfl,_,rfl,t,_,_,.int (m:Nat),rfl,rfl,a9.of Xz,rfl,?_⟩;refine⟨g,bH,d,o,E,sq.take j,c,i,m,a,rfl,S4,hd,hE,Xy,hi,hok.sm _ (mem_of_getElem? JM),by rw[<-etk];exact hok.few _,λy hy=>?_,λd5 E5 qO H5 S5 _ b5 n5 XC LD JN _=>?_⟩
  ·obtain⟨sy,A3⟩:=hE.sound y hy
   obtain⟨r1,r2⟩:=LA _ A3;exact⟨r1,r2,λz=>by cases z⟩
  ·refine⟨d5,_,rfl,XC,λo5=>⟨_,d5,o5,E5,qO,rfl,S5.dk XC _,λb ob e hb=>?_,a8,by rw[etk];exact LD,JN⟩⟩
   have e4:=b4 _ _ e hb;rw[aJ (c6 e4 n5)];exact b5 _ _ e4 hb
 ·rintro σ H4 ⟨v4,d,o,E,bH,rfl,S4,b4,hd,hE,Xy⟩
  rw[hlen,take_length] at hE
  refine⟨_,rfl,d,_,rfl,.inr ⟨o,hd⟩,λv hv=>?_⟩;have s5:=ao hv (Bo v d);have hne:E≠[]:=λz=>by
   obtain⟨x,hx⟩:=exists_mem_of_ne_nil _ (Wr g.w sq c);obtain⟨y,hy,_⟩:=hE.qH x hx;rw[z] at hy;cases hy
  refine⟨v,d,_,E.map (λx=>((x.2:Nat):Int)),rfl,a8,.inr ⟨o,s5 _ _ hd⟩,by unfold cL;rw[map_map,map_map];rfl,by simpa using hne,λk hk hmin=>?_⟩;obtain⟨x,hx,rfl⟩:=List.mem_map.mp hk;exact q x.2 bH _ (S4.mono s5) (b4.trans (cB.of s5)) (hE.least ⟨x,hx,rfl⟩ λy hy=>by have:=hmin _ (List.mem_map.mpr ⟨y,hy,rfl⟩);omega)
theorem XD:cQ ["self","choice","margin","waiting","column","cost","with_0"] ["self","choice","margin","waiting","column","cost"] (cg Ig):=⟨rfl,rfl,rfl, ⋯,rfl, ⋯, ⋯⟩
theorem LI  (F:cA K "first_side" "Search.first_side" Ig f fd)(T:kZ K mg C)(LC:MO P w K mg base C aB 7 fL lD "least_cost" ["self","waiting","column"] (A9 CN C)):aH P w K mg base aB 8 f fd ["self","choice","margin","waiting","column","cost"] (CW CN C):=by
 refine F.cU XD (λvs H Q E h=>?_) (λcdv A outer s H vs Q E hr h=>?_)
 ·obtain⟨g,Ks,t,l,i,j,a,b,ts,r,m,c,k,rfl,_⟩:=h
  rfl
 obtain⟨g,Ks,t,l,i,j,a,b,ts,r,m,c,k,rfl,S,ht,hi,hj,hl,htl,hts,hok,hle,q0,q1⟩:=h;have nd:=XD.nd
 refine⟨_,au (cN (cI d8 (aF aN (a6 1) ak (λ_ _=>rfl)) (aF aN (a6 1) ak (λ_ _=>rfl)) (cP _)) (aL (bx ak)) cW)<|
  au (aO (i:=6) nd rfl (Or.inl rfl) (bK rA (a6 3) (cX (d0 (bf (cF (aF aN (a6 1) ak (λ_ _=>rfl)) (aq (a6 2) a7))) a7))))<|
  aL (bx (jL (cI d8 (dU (a6 0) T.cl LC.m LC.ok hr LC.b .nil aU (aq (a6 6) (aq (a6 4) a7))) (a6 5) (cP _)) ak ak)),?_⟩
 have ht:H t=some (.tup [.str "choice",.int ((i:Nat):Int),.int ((j:Nat):Int)]):=ht
 refine⟨_,rfl,t,_,_,.int (i:Nat),rfl,rfl,a9.of ht,rfl,_,rfl,t,_,_,.int (j:Nat),rfl,rfl,a9.of ht,rfl,rfl,_,rfl,?_⟩;refine jH (λe=>?_) (λe=>?_)
 ·have e1:((i:Nat):Int)=((j:Nat):Int):=V.int.inj (of_decide_eq_true e)
  have e2:i=j:=by omega
  subst e2;have e3:=cj.one hi hj;subst e3;exact q0 Ks H S cB.refl hle.eq
 ·refine⟨_,rfl,_,rfl,t,_,_,.int (i:Nat),rfl,rfl,a9.of ht,rfl,_,rfl,aC,λu hu=>⟨aC,λl1 hl1=>?_⟩⟩
  have s1:=ao hu (.tup [.int ((i:Nat):Int),.int ((m:Nat):Int)]);have s2:=ao hl1 (.lst [.ref u]);refine⟨l,l1,_,_,rfl,rfl,s2 _ _ (s1 _ _ hl),a8,le_trans (show(ts.map V.ref).length+1<=16000001 by rw[length_map];omega) (d4 (by omega)),λl2 hl2=>?_⟩;have s3:=s1.trans (s2.trans (ao hl2 (.lst (ts.map V.ref++[.ref u]))));have m8:=(s2.trans (ao hl2 (.lst (ts.map V.ref++[.ref u])))) _ _ (a8 (H:=H) (a:=u) (o:=.tup [.int ((i:Nat):Int),.int ((m:Nat):Int)]));have e3:(upd (upd (upd H u (.tup [.int ((i:Nat):Int),.int ((m:Nat):Int)])) l1 (.lst [.ref u])) l2 (.lst (ts.map V.ref++[.ref u]))) l2=some (.lst ((ts++[u]).map V.ref)):=by rw[a8,map_append];rfl
  generalize upd (upd (upd H u (.tup [.int ((i:Nat):Int),.int ((m:Nat):Int)])) l1 (.lst [.ref u])) l2 (.lst (ts.map V.ref++[.ref u]))=H3 at s3 m8 e3
  have S3:=S.mono s3;obtain⟨dx,ho⟩:=S3.ob;refine⟨_,rfl,g.s,dx,_,rfl,ho,gY _ _ _ ⋯ ⋯ ⋯,_,rfl,_,rfl,?_⟩;refine⟨g,Ks,l2,ts++[u],(a,m)::r,c,rfl,S3,e3,by rw[reverse_cons];exact iU (Paired.gJ hts λ_ _ z=>z.mono (.of s3)) (.cons ⟨i,m8,hi⟩ .nil),hok,λk' bH H4 S4 b4 hk'=>?_⟩;have XF:cB g.kn H H4:=(cB.of s3).trans b4;refine⟨_,rfl,rfl,_,rfl,?_⟩;rcases hle.side hk' with⟨e1,h0⟩|⟨e1,h0,h1⟩
  ·exact cG (decide_eq_true (by rw[e1])) (q0 bH H4 S4 XF h0)
  ·exact aP (λz=>e1 (by have:=V.int.inj (of_decide_eq_true z);omega)) (q1 bH H4 S4 XF h0 h1)
inductive CZ(CN C:Addr)(vs:List V)(H:Hp)(Q:VK)(E':XK):Prop
 |mk (g:Gh) (Ks:List Ent) (i k:Nat) (a:Nd) (z0:vs=[.ref g.s,.int (i:Nat),.int (k:Nat)]) (z1:eO CN C H g Ks) (z2:cj g.T i a) (z3:h8 g.w g.U [(a,0)] 0) (z4:Least (cY g.w [(a,0)] 0) k) (z5:dM a<=100000) (z6:∀(l:Addr) (ss:List Int) (bH:List Ent) (H':Hp),eO CN C H' g bH->cB g.kn H H'->H l=none->H' l=some (.lst (ss.map V.int))->Best (cY g.w [(a,0)] 0) ss k->Q (.ref l) H'):CZ CN C vs H Q E'
structure JQ(CN C:Addr)(H:Hp)(g:Gh)(i k:Nat)(a:Nd)(A W:Addr)(n:Nat)(σ:St)(H':Hp)(q:Sq)(c k':Nat)(ss:List Int)(ts:List Addr)(bH:List Ent):Prop where
 uO:∃v6 v7 v8 v9 v10:Option V,σ=[some (.ref g.s),some (.int (i:Nat)),some (.int (k':Nat)),some (.ref A),some (.int (c:Nat)),some (.ref W),v6,v7,v8,v9,v10]
 n_:n=zl4 q
 le:ss.length+n<=dM a
 at_:eO CN C H' g bH
 but:cB g.kn H H'
 XH:H' A=some (.lst (ss.map V.int))
 atW:H' W=some (.lst (ts.map V.ref))
 sG:Paired (ou H' g.T) ts q.reverse
 ok:h8 g.w g.U q c
 least:Least (cY g.w q c) k'
 best:∀s,Best (cY g.w q c) s k'->Best (cY g.w [(a,0)] 0) (ss++s) k
theorem XJ:cQ ["self","root","cost","sides","column","waiting","step","spot","node","margin","side"] ["self","root","cost"] (cg Ie):=⟨rfl,rfl,rfl, ⋯,rfl, ⋯, ⋯⟩
theorem LJ{fB fD:Addr}{dD:FuncData}(F:cA K "first_sides" "Search.first_sides" Ie f fd)(T:kZ K mg C)(TN:k9 K mg CN)(SP:MO P w K mg base C aB 1 fS sD "spot_of" lE (uR CN C))
  (SG:MO P w K mg base C aB 1 fG gD "cost_of_signs" ["self","column","length"] (wO C)) (SK:MO P w K mg base C aB 2 fB bD "cost_of_break" ["self","margin"] (zZ C))
  (SD:MO P w K mg base C aB 8 fD dD "first_side" ["self","choice","margin","waiting","column","cost"] (CW CN C)):aH P w K mg base aB 9 f fd ["self","root","cost"] (CZ CN C):=by
 refine F.cU XJ (λvs H Q E h=>?_) (λcdv A outer s H vs Q E hr h=>?_)
 ·obtain⟨g,Ks,i,k,a,rfl,_⟩:=h
  rfl
 obtain⟨g,Ks,i,k,a,rfl,S,hi,hok,hle,hsz,q⟩:=h;have nd:=XJ.nd;have hr1:cZ 1 _:=hr.mono (by decide);have hr2:cZ 2 _:=hr.mono (by decide)
 refine⟨_,au (aO (i:=3) nd rfl (Or.inl rfl) (cX a7))<|
  au (aO (i:=4) nd rfl (Or.inl rfl) ak)<|
  au (aO (i:=5) nd rfl (Or.inl rfl) (cX (d0 (bf (aq (a6 1) (aM ak a7))) a7)))<|
  au (nT PassesOwn.never (nY (a6 5) (λ_=>rfl)) (
   au (aO (i:=6) nd rfl (Or.inl rfl) (uE plainAttrs_list slot_list_pop type_list_pop uq (a6 5)))<|
   au (aO (i:=7) nd rfl (Or.inl rfl) (dU (a6 0) T.cl SP.m SP.ok hr1 SP.b .nil aU (cF (aF aN (a6 6) ak (λ_ _=>rfl)) (aq (a6 4) (cF (aF aN (a6 6) ak (λ_ _=>rfl)) a7)))))<|
   au (aO (i:=8) nd rfl (Or.inl rfl) (aF gK (dY (dY (a6 0) rfl) rfl) (aF aN (a6 7) ak (λ_ _=>rfl)) (λ_ _=>rfl)))<|
   au (aO (i:=9) nd rfl (Or.inl rfl) (aF aN (a6 7) ak (λ_ _=>rfl)))<|
   aL (cN (cI d8 (aF aN (a6 8) ak (λ_ _=>rfl)) aK (cP _)) (au (Bd (i:=2) nd rfl (Or.inl rfl) (dU (a6 0) T.cl SG.m SG.ok hr1 SG.b .nil aU (aq (a6 4) (cF (aF aN (a6 8) ak (λ_ _=>rfl)) a7))) QZ) (aL (Bd (i:=4) nd rfl (Or.inl rfl) (aF aN (a6 8) ak (λ_ _=>rfl)) QX)))
    (aL (cN (cI d8 (aF aN (a6 8) ak (λ_ _=>rfl)) aK (cP _)) (au (Bd (i:=2) nd rfl (Or.inl rfl) (dU (a6 0) T.cl SK.m SK.ok hr2 SK.b .nil aU (aq (a6 9) a7)) QZ) (aL (aO (i:=4) nd rfl (Or.inl rfl) (a6 9))))
     (aL (cN (cI d8 (aF aN (a6 8) ak (λ_ _=>rfl)) aK (cP _)) (aL (fZ (gG plainAttrs_list slot_list_extend type_list_extend qZ (a6 5) (oR (cX (d0 (bf (cF (aF aN (a6 8) ak (λ_ _=>rfl)) (aq (a6 9) a7))) (d0 (bf (cF (aF aN (a6 8) ak (λ_ _=>rfl)) (aq (a6 9) a7))) a7))) a7))))
      (au (aO (i:=10) nd rfl (Or.inl rfl) (dU (a6 0) T.cl SD.m SD.ok hr SD.b .nil aU (aq (a6 8) (aq (a6 9) (aq (a6 5) (aq (a6 4) (aq (a6 2) a7)))))))<|
       au (fZ (gG plainAttrs_list PySem.F.slot_list_append PySem.F.type_list_append ju (a6 3) (aq (a6 10) a7)))<|
       aL (fZ (gG plainAttrs_list PySem.F.slot_list_append PySem.F.type_list_append ju (a6 5) (d0 (bf (cF (aF aN (a6 8) (bK iQ ak (a6 10)) (λ_ _=>rfl)) (aq (a6 9) a7))) a7)))))))))))<|
  aL (bx (a6 3)),?_⟩
 have hkn:=S.kn;obtain⟨as0,XM,_⟩:=S.no.li;have zu:=S.no.le;refine⟨aC,λA hA=>⟨_,rfl,aC,λt0 ht0=>⟨aC,λW hW=>?_⟩⟩⟩;have s1:=ao hA (.lst []);have s2:=ao ht0 (.tup [.int ((i:Nat):Int),.int 0]);have s3:=ao hW (.lst [.ref t0]);have pH:=s1.trans (s2.trans s3);have nW:H W=none:=(s1.trans s2).free hW;have x6:A≠W:=λz=>by rw[<-z,s2 _ _ a8] at hW;cases hW
 have uZ:W≠g.la:=λz=>by rw[z,XM] at nW;cases nW
 have vd:W≠g.ga:=λz=>by rw[z,zu] at nW;cases nW
 have LL:A≠g.la:=λz=>by rw[z,XM] at hA;cases hA
 have LO:A≠g.ga:=λz=>by rw[z,zu] at hA;cases hA
 have JR:A≠g.kn:=λz=>by rw[z,hkn] at hA;cases hA
 have A8:W≠g.kn:=λz=>by rw[z,hkn] at nW;cases nW
 refine⟨λn σ H'=>∃sq c k' ss ts bH,JQ CN C H g i k a A W n σ H' sq c k' ss ts bH,⟨zl4 [(a,0)],[(a,0)],0,k,[],[t0],Ks, ?init⟩, ?turn⟩
 case init=>
  refine⟨⟨_,_,_,_,_,rfl⟩,rfl,?_,S.mono pH,cB.of pH,(s2.trans s3) _ _ a8,a8,.cons ⟨i,s3 _ _ a8,hi⟩ .nil,hok,hle,λs hs=>hs⟩;show 0+(dM a+0)<=dM a;omega
 case turn=>
  rintro n σ H' ⟨sq,c,k',ss,ts,bH,I⟩
  obtain⟨v6,v7,v8,v9,v10,rfl⟩:=I.uO;refine⟨_,rfl,_,.inl ⟨_,aG.of I.atW,rfl⟩,?_⟩;cases sq with
  |nil=>
   have ew:ts=[]:=by have:=I.sG;cases this;rfl
   subst ew;refine aP (by simp) ?_;have hl:Least [([],c,0)] k':=I.least;have ek:k'=0:=by
    obtain⟨⟨o,ho,e⟩,_⟩:=hl;rw[List.mem_singleton.mp ho] at e
    exact e.symm
   have hb:=I.best [] ⟨[],c,[],by rw[ek];rfl,λo ho=>(by cases ho),λo ho=>(by cases ho)⟩;rw[append_nil] at hb
   exact⟨_,rfl,q A ss bH H' I.at_ I.but hA I.XH hb⟩
  |cons p r=>
   obtain⟨b,m⟩:=p;obtain⟨ys,tx,ex,hys,ix,htx,hix⟩:∃ys tx,ts=ys++[tx]/\Paired (ou H' g.T) ys r.reverse/\ou H' g.T tx (b,m):=by
    have z:=I.sG;rw[reverse_cons] at z
    exact rR z
   subst ex;have hix:cj g.T ix b:=hix;refine cG (by simp) ?_;have hle:=I.le;have hn:=I.n_;rw[t9] at hn
   have hn:n=dM b+zl4 r:=hn;have hqr:=Xe r;have hyl:=Paired.length hys;rw[length_reverse] at hyl
   have CQ:((ys++[tx]).map V.ref).dropLast=ys.map V.ref:=by rw[map_append];exact dropLast_concat
   have CT:((ys++[tx]).map V.ref)[((ys++[tx]).map V.ref).length - 1]? = some (.ref tx):=by simp
   refine⟨λσ' fQ=>∃n',n'<n/\∃sq c k' ss ts bH,JQ CN C H g i k a A W n' σ' fQ sq c k' ss ts bH,λ_ _ z=>z,?_⟩;refine⟨_,rfl,.inl ⟨rfl,_,aG.of I.atW⟩,W,_,_,rfl,rfl,I.atW,CT,?_⟩;rw[CQ];have S1:=I.at_.list I.atW uZ vd (ys.map V.ref);have t1:bQ H' (upd H' W (.lst (ys.map V.ref))):=dX I.atW;have b1:cB g.kn H (upd H' W (.lst (ys.map V.ref))):=λx ob e hx=>by rw[aJ (c6 e nW)];exact I.but _ _ e hx
   have w1:(upd H' W (.lst (ys.map V.ref))) W=some (.lst (ys.map V.ref)):=a8;have a1:(upd H' W (.lst (ys.map V.ref))) A=some (.lst (ss.map V.int)):=by rw[aJ x6];exact I.XH
   have JT:=t1 _ _ htx;have sI:Paired (ou (upd H' W (.lst (ys.map V.ref))) g.T) ys r.reverse:=Paired.gJ hys λ_ _ z=>z.mono t1
   generalize upd H' W (.lst (ys.map V.ref))=H1 at S1 t1 b1 w1 a1 JT sI
   obtain⟨o8,ho1⟩:=S1.ob;refine⟨_,rfl,g.s,o8,_,rfl,ho1,gY _ _ _ ⋯ ⋯ ⋯,_,rfl,tx,_,_,.int (ix:Nat),rfl,rfl,a9.of JT,rfl,_,rfl,_,rfl,tx,_,_,.int (m:Nat),rfl,rfl,a9.of JT,rfl,?_⟩;refine⟨g.s,g.n,g.la,g.na,g.ga,g.kn,o8,g.T,g.L,g.w,ix,c,m,b,rfl,ho1,S1.no,hix,λtu H2 s2' n2 hsp=>?_⟩;have S2:=S1.mono s2';have b2:cB g.kn H H2:=b1.trans (cB.of s2');have w2:=s2' _ _ w1;have a2:=s2' _ _ a1;have Aa:Paired (ou H2 g.T) ys r.reverse:=Paired.gJ sI λ_ _ z=>z.mono (.of s2')
   obtain⟨iu,htu,hiu⟩:=hsp;have ok2:=I.ok.spot;have oA:=I.least;have pI:=I.best;rw[Ki] at oA pI
   have hns:=JF b c m;have hco:=zV b c m;have hiu:cj g.T iu (eF b c m).1:=hiu;have htu:H2 tu=some (.tup [.int ((iu:Nat):Int),.int ((c:Nat):Int),.int (((eF b c m).2:Nat):Int)]):=htu
   generalize eF b c m=bm at ok2 oA pI hns hco hiu htu
   obtain⟨b',m'⟩:=bm;have hns:dM b'<=dM b:=hns;have hco:qK b'=true:=hco;have hiu:cj g.T iu b':=hiu;have htu:H2 tu=some (.tup [.int ((iu:Nat):Int),.int ((c:Nat):Int),.int ((m':Nat):Int)]):=htu;clear s2' s1 s2 s3;obtain⟨j5,ho2⟩:=S2.ob;obtain⟨iZ,hn2⟩:=S2.no.ob;obtain⟨oM,hr0,hd,tl,ek,_⟩:=wQ hiu;obtain⟨as,tn,hla,hat,htr⟩:=A0 S2.no hr0;have mH:H2 tn=some (.tup (.str hd::tl.map kV)):=by have:=htr;unfold lX at this;rw[ek] at this;exact this
   refine⟨_,rfl,g.s,C,j5,_,_,rfl,ho2,T.cl,T.qL,sW _ _ _,g.n,CN,iZ,_,_,rfl,hn2,TN.cl,TN.qz,sS _ _ _,_,rfl,tu,_,_,.int (iu:Nat),rfl,rfl,a9.of htu,rfl,g.la,_,_,_,rfl,rfl,aG.of hla,hat,?_⟩;refine⟨_,rfl,tu,_,_,.int (m':Nat),rfl,rfl,a9.of htu,rfl,?_⟩;refine⟨_,rfl,tn,_,_,.str hd,rfl,rfl,a9.of mH,(by show dN (V.str hd::tl.map kV) ((0:Nat):Int)=_;exact gF rfl),rfl,_,rfl,?_⟩;cases b' with
   |nest _ _=>cases hco
   |align _=>cases hco
   |text l=>
    have hiu:g.T[iu]? = some (.text l):=hiu;rw[hr0] at hiu
    cases hiu;cases ek;refine cG ⋯ ?_
    rw[Hb] at oA pI
    obtain⟨k2,ek2,hl2⟩:=oA.shift;refine⟨_,rfl,_,rfl,g.s,j5,_,rfl,ho2,gY _ _ _ ⋯ ⋯ ⋯,_,rfl,_,rfl,tn,_,_,.int (l:Nat),rfl,rfl,a9.of mH,rfl,g.s,g.n,g.kn,j5,g.w,c,l,rfl,ho2,_,_,rfl,rfl,?_⟩;refine⟨_,rfl,_,rfl,tn,_,_,.int (l:Nat),rfl,rfl,a9.of mH,rfl,_,_,rfl,rfl,?_⟩;have e1:((k':Nat):Int) - ((SB*ov g.w c l:Nat):Int)=((k2:Nat):Int):=by omega
    have e2:((c:Nat):Int)+((l:Nat):Int)=((c+l:Nat):Int):=by omega
    refine⟨zl4 r,by have:=A7 b;omega,r,c+l,k2,ss,ys,bH,⟨some (.ref tx),some (.ref tu),some (.ref tn),some (.int (m':Nat)),v10,by rw[<-e1,<-e2];rfl⟩,rfl,by omega,S2,b2,a2,w2,Aa,ok2.text,hl2,λs hs=>pI s (by rw[ek2];exact hs.shift)⟩
   |brk=>
    have hiu:g.T[iu]? = some .brk:=hiu;rw[hr0] at hiu
    cases hiu;cases ek;refine aP ⋯ ?_
    refine⟨_,rfl,tn,_,_,.str "break",rfl,rfl,a9.of mH,rfl,rfl,_,rfl,cG ⋯ ?_⟩
    rw[Hc] at oA pI
    obtain⟨k2,ek2,hl2⟩:=oA.shift;refine⟨_,rfl,_,rfl,g.s,j5,_,rfl,ho2,gY _ _ _ ⋯ ⋯ ⋯,_,rfl,g.s,g.n,g.kn,j5,g.w,m',rfl,ho2,_,_,rfl,rfl,?_⟩;have e1:((k':Nat):Int) - ((1+SB*ov g.w 0 m':Nat):Int)=((k2:Nat):Int):=by omega
    refine⟨_,rfl,zl4 r,by have:=A7 b;omega,r,m',k2,ss,ys,bH,⟨some (.ref tx),some (.ref tu),some (.ref tn),some (.int (m':Nat)),v10,by rw[<-e1];rfl⟩,rfl,by omega,S2,b2,a2,w2,Aa,ok2.brk,hl2,λs hs=>pI s (by rw[ek2];exact hs.shift)⟩
   |beside x y=>
    obtain⟨i1,i2,e,h1,h2⟩:=hiu;rw[hr0] at e
    cases e;cases ek;refine aP ⋯ ?_
    refine⟨_,rfl,tn,_,_,.str "beside",rfl,rfl,a9.of mH,rfl,rfl,_,rfl,aP ⋯ ?_⟩
    refine⟨_,rfl,tn,_,_,.str "beside",rfl,rfl,a9.of mH,rfl,rfl,_,rfl,cG ⋯ ?_⟩
    rw[Wm] at oA pI
    have hnb:dM x+dM y+1<=dM b:=hns;refine⟨_,rfl,.inl ⟨rfl,_,aG.of w2⟩,_,rfl,tn,_,_,.int (i2:Nat),rfl,rfl,a9.of mH,rfl,_,rfl,aC,λu1 hu1=>?_⟩;have z1:=ao hu1 (.tup [.int ((i2:Nat):Int),.int ((m':Nat):Int)]);refine⟨_,rfl,tn,_,_,.int (i1:Nat),rfl,rfl,a9.of (z1 _ _ mH),rfl,_,rfl,aC,λu2 hu2=>?_⟩;have z2:=ao hu2 (.tup [.int ((i1:Nat):Int),.int ((m':Nat):Int)]);refine⟨aC,λl1 hl1=>?_⟩;have z3:=ao hl1 (.lst [.ref u1,.ref u2]);have z:=z1.trans (z2.trans z3);have g1:=(z2.trans z3) _ _ (a8 (H:=H2) (a:=u1) (o:=.tup [.int ((i2:Nat):Int),.int ((m':Nat):Int)]));have g2:=z3 _ _ (a8 (H:=upd H2 u1 (.tup [.int ((i2:Nat):Int),.int ((m':Nat):Int)])) (a:=u2) (o:=.tup [.int ((i1:Nat):Int),.int ((m':Nat):Int)]));have g3:(upd (upd (upd H2 u1 (.tup [.int ((i2:Nat):Int),.int ((m':Nat):Int)])) u2 (.tup [.int ((i1:Nat):Int),.int ((m':Nat):Int)])) l1 (.lst [.ref u1,.ref u2])) l1=some (.lst [.ref u1,.ref u2]):=a8
    generalize upd (upd (upd H2 u1 (.tup [.int ((i2:Nat):Int),.int ((m':Nat):Int)])) u2 (.tup [.int ((i1:Nat):Int),.int ((m':Nat):Int)])) l1 (.lst [.ref u1,.ref u2])=H3 at z g1 g2 g3
    clear z1 z2 z3;have w3:=z _ _ w2;refine⟨W,l1,_,_,rfl,rfl,w3,g3,le_trans (show(ys.map V.ref).length+2<=16000001 by rw[length_map];omega) (d4 (by omega)),?_⟩;have u3:bQ H3 (upd H3 W (.lst (ys.map V.ref++[.ref u1,.ref u2]))):=dX w3;refine⟨zl4 ((x,m')::(y,m')::r),by rw[t9,t9];show dM x+(dM y+zl4 r)<n;omega,(x,m')::(y,m')::r,c,k',ss,ys++[u1,u2],bH,⟨_,_,_,_,_,rfl⟩,rfl,by rw[t9,t9];show ss.length+(dM x+(dM y+zl4 r))<=_;omega,(S2.mono z).list w3 uZ vd _,λv ob e hv=>by rw[aJ (c6 e nW)];exact z _ _ (b2 _ _ e hv),by rw[aJ x6];exact z _ _ a2,by rw[a8,map_append];rfl,?_,ok2.beside,oA,pI⟩;rw[reverse_cons,reverse_cons,append_assoc];exact iU (Paired.gJ Aa λ_ _ v=>(v.mono (.of z)).mono u3) (.cons ⟨i2,u3 _ _ g1,h2⟩ (.cons ⟨i1,u3 _ _ g2,h1⟩ .nil))
   |choice x y=>
    obtain⟨i1,i2,e,h1,h2⟩:=hiu;rw[hr0] at e
    cases e;cases ek;refine aP ⋯ ?_
    refine⟨_,rfl,tn,_,_,.str "choice",rfl,rfl,a9.of mH,rfl,rfl,_,rfl,aP ⋯ ?_⟩
    refine⟨_,rfl,tn,_,_,.str "choice",rfl,rfl,a9.of mH,rfl,rfl,_,rfl,aP ⋯ ?_⟩
    have hnb:dM x+dM y+1<=dM b:=hns;have npx:=A7 x;have npy:=A7 y;have fin:∀(sd j:Nat) (v:Nd) (pB:List Ent) (H3:Hp),eO CN C H3 g pB->cB g.kn H2 H3->cj g.T j v->dM v<dM b->h8 g.w g.U ((v,m')::r) c->Least (cY g.w ((v,m')::r) c) k'->(∀s,Best (cY g.w ((v,m')::r) c) s k'->Best (cY g.w [(a,0)] 0) (ss++((sd:Nat):Int)::s) k)->
      H3 A=some (.lst (ss.map V.int))/\(ss.map V.int).length<sizeLine/\∀(u:Addr),(upd H3 A (.lst (ss.map V.int++[.int ((sd:Nat):Int)]))) u=none->(upd (upd H3 A (.lst (ss.map V.int++[.int ((sd:Nat):Int)]))) u (.tup [.int ((j:Nat):Int),.int ((m':Nat):Int)])) W=some (.lst (ys.map V.ref))/\(ys.map V.ref).length<sizeLine/\
       ∀v6 v7 v8 v9 v10:Option V,∃n',n'<n/\∃LU c2 k2 ss2 LW K2,JQ CN C H g i k a A W n' [some (.ref g.s),some (.int (i:Nat)),some (.int ((k':Nat):Int)),some (.ref A),some (.int ((c:Nat):Int)),some (.ref W),v6,v7,v8,v9,v10] (upd (upd (upd H3 A (.lst (ss.map V.int++[.int ((sd:Nat):Int)]))) u (.tup [.int ((j:Nat):Int),.int ((m':Nat):Int)])) W (.lst (ys.map V.ref++[.ref u]))) LU c2 k2 ss2 LW K2:=λsd j v pB H3 S3 b3 hj hnv LX JV hbv=>by
     have a3:=b3 _ _ a2 JR;have w3:=b3 _ _ w2 A8;have t3:bQ H2 H3:=Ck b3 S2.kn;refine⟨a3,lt_of_lt_of_le (show(ss.map V.int).length<16000001 by rw[length_map];omega) (d4 (by omega)),λu hu=>?_⟩;have t4:bQ H3 (upd H3 A (.lst (ss.map V.int++[.int ((sd:Nat):Int)]))):=dX a3;have S4:=S3.list a3 LL LO (ss.map V.int++[.int ((sd:Nat):Int)]);have w4:(upd H3 A (.lst (ss.map V.int++[.int ((sd:Nat):Int)]))) W=some (.lst (ys.map V.ref)):=by rw[aJ x6.symm];exact w3
     have a4:(upd H3 A (.lst (ss.map V.int++[.int ((sd:Nat):Int)]))) A=some (.lst ((ss++[((sd:Nat):Int)]).map V.int)):=by rw[a8,map_append];rfl
     have b4:cB g.kn H (upd H3 A (.lst (ss.map V.int++[.int ((sd:Nat):Int)]))):=λz ob e hz=>by rw[aJ (c6 e hA)];exact b3 _ _ (b2 _ _ e hz) hz
     generalize upd H3 A (.lst (ss.map V.int++[.int ((sd:Nat):Int)]))=H4 at hu t4 S4 w4 a4 b4 ⊢
     have s5:=ao hu (.tup [.int ((j:Nat):Int),.int ((m':Nat):Int)]);have S5:=S4.mono s5;have w5:=s5 _ _ w4;have a5:=s5 _ _ a4;have u5:(upd H4 u (.tup [.int ((j:Nat):Int),.int ((m':Nat):Int)])) u=some (.tup [.int ((j:Nat):Int),.int ((m':Nat):Int)]):=a8
     generalize upd H4 u (.tup [.int ((j:Nat):Int),.int ((m':Nat):Int)])=H5 at s5 S5 w5 a5 u5 ⊢
     refine⟨w5,lt_of_lt_of_le (show(ys.map V.ref).length<16000001 by rw[length_map];omega) (d4 (by omega)),λv6 v7 v8 v9 v10=>?_⟩;have t6:bQ H5 (upd H5 W (.lst (ys.map V.ref++[.ref u]))):=dX w5;refine⟨zl4 ((v,m')::r),by rw[t9];show dM v+zl4 r<n;omega,(v,m')::r,c,k',ss++[((sd:Nat):Int)],ys++[u],pB,⟨_,_,_,_,_,rfl⟩,rfl,by rw[t9,length_append];show ss.length+1+(dM v+zl4 r)<=_;omega,S5.list w5 uZ vd _,λz ob e hz=>by rw[aJ (c6 e nW)];exact s5 _ _ (b4 _ _ e hz),by rw[aJ x6];exact a5,by rw[a8,map_append];rfl,?_,LX,JV,λs hs=>by have:=hbv s hs;rw[append_assoc];exact this⟩;rw[reverse_cons];exact iU (Paired.gJ Aa λ_ _ z=>(((z.mono t3).mono t4).mono (.of s5)).mono t6) (.cons ⟨j,t6 _ _ u5,hj⟩ .nil)
    refine⟨_,rfl,g.s,j5,_,rfl,ho2,gY _ _ _ ⋯ ⋯ ⋯,_,rfl,_,rfl,_,rfl,_,rfl,_,rfl,?_⟩;refine⟨g,bH,tn,W,i1,i2,x,y,ys,r,m',c,k',rfl,S2,mH,h1,h2,w2,by omega,Aa,ok2.left,oA,λpB H3 S3 b3 hl3=>?_,λpB H3 S3 b3 hl3 hb3=>?_⟩
    ·obtain⟨f1,f2,f3⟩:=fin 0 i1 x pB H3 S3 b3 h1 (by omega) ok2.left hl3 (λs hs=>pI _ (by rw[wM];exact hs.left λo ho=>(by rw[wM] at oA;exact oA.2 (1::o.1,o.2) (mem_append_right _ (List.mem_map.mpr ⟨o,ho,rfl⟩)))))
     refine⟨_,rfl,.inl ⟨rfl,_,aG.of f1⟩,_,rfl,A,_,_,rfl,rfl,f1,f2,?_⟩;have a3:=b3 _ _ a2 JR;have w4:(upd H3 A (.lst (ss.map V.int++[.int 0]))) W=some (.lst (ys.map V.ref)):=by rw[aJ x6.symm];exact b3 _ _ w2 A8
     have JW:(upd H3 A (.lst (ss.map V.int++[.int 0]))) tn=some (.tup [.str "choice",.int ((i1:Nat):Int),.int ((i2:Nat):Int)]):=(dX a3) _ _ (Ck b3 S2.kn _ _ mH)
     refine⟨_,rfl,.inl ⟨rfl,_,aG.of w4⟩,_,rfl,_,rfl,_,_,rfl,rfl,tn,_,_,.int ((i1:Nat):Int),rfl,rfl,a9.of JW,rfl,_,rfl,aC,λu hu=>?_⟩;obtain⟨f4,f5,f6⟩:=f3 u hu;exact⟨W,_,_,rfl,rfl,f4,f5,f6 _ _ _ _ _⟩
    ·obtain⟨f1,f2,f3⟩:=fin 1 i2 y pB H3 S3 b3 h2 (by omega) ok2.right hl3 (λs hs=>pI _ (by rw[wM];exact hs.right hb3))
     refine⟨_,rfl,.inl ⟨rfl,_,aG.of f1⟩,_,rfl,A,_,_,rfl,rfl,f1,f2,?_⟩;have a3:=b3 _ _ a2 JR;have w4:(upd H3 A (.lst (ss.map V.int++[.int 1]))) W=some (.lst (ys.map V.ref)):=by rw[aJ x6.symm];exact b3 _ _ w2 A8
     have JW:(upd H3 A (.lst (ss.map V.int++[.int 1]))) tn=some (.tup [.str "choice",.int ((i1:Nat):Int),.int ((i2:Nat):Int)]):=(dX a3) _ _ (Ck b3 S2.kn _ _ mH)
     refine⟨_,rfl,.inl ⟨rfl,_,aG.of w4⟩,_,rfl,_,rfl,_,_,rfl,rfl,tn,_,_,.int ((i2:Nat):Int),rfl,rfl,a9.of JW,rfl,_,rfl,aC,λu hu=>?_⟩;obtain⟨f4,f5,f6⟩:=f3 u hu;exact⟨W,_,_,rfl,rfl,f4,f5,f6 _ _ _ _ _⟩
structure Ab(w:Nat)(a:Nd):Prop where
 sm:fj a
 LY:cw w a 0 0<=16000000
 sp:(zl0 w a 0 0).length<=16000000
 sz:dM a<=100000
theorem Ab.sq{w:Nat} (h:Ab w a):h8 w (zl0 w a 0 0) [(a,0)] 0:=
 ⟨λp hp=>by rw[List.mem_singleton.mp hp];exact h.sm,Cz λk=>by
  rw[take_nil];exact h.sm.tot,λy hy=>hy,h.LY,λo _=>trivial⟩
inductive D1(C:Addr)(vs:List V)(H:Hp)(Q:VK)(E':XK):Prop
 |mk (p dx n:Addr) (w:Nat) (z0:vs=[.ref p,.ref n,.int (w:Nat)]) (z1:H p=some (.ins C dx [])) (z2:∀(kn:Addr) (H':Hp),(∃dx,H' p=some (.ins C dx (sf n kn w)))->H' kn=some (.dT [])->H kn=none->cB p H H'->Q .non H'):D1 C vs H Q E'
inductive JX(vs:List V)(H:Hp)(Q:VK)(E':XK):Prop
 |mk (r:Addr) (p:Plan) (w:Nat) (z0:vs=[.ref r,.int (w:Nat)]) (z1:aZ H p r) (z2:p.Lay) (z3:p.deep<=60) (z4:p.size<=100000) (z5:(cO p).length<=600) (z6:p.grow<=1000000) (z7:Ab w (aQ p false)) (z8:∀(t l:Addr) (ss:List Int) (k:Nat) (H':Hp),Same H H'->H' t=some (.tup [.int ((k / SB:Nat):Int),.int ((k % SB:Nat):Int),.ref l])->H' l=some (.lst (ss.map V.int))->Best (cY w [(aQ p false,0)] 0) ss k->Q (.ref t) H'):JX vs H Q E'
theorem LZ:cQ ["self","nodes","width"] ["self","nodes","width"] (cg HW):=⟨rfl,rfl,rfl, ⋯,rfl, ⋯, ⋯⟩
theorem Mb(F:cA K "__init__" "Search.__init__" HW f fd)(T:kZ K mg C):aH P w K mg base aB 1 f fd ["self","nodes","width"] (D1 C):=by
 refine F.cU LZ (λvs H Q E h=>?_) (λcdv A outer s H vs Q E hr h=>?_)
 ·obtain⟨p,dx,n,w,rfl,_⟩:=h
  rfl
 obtain⟨p,dx,n,wd,rfl,hp,k⟩:=h;refine⟨_,au (pY (a6 0) (a6 1) rfl) (au (pY (a6 0) (a6 2) rfl) (aL (pY (a6 0) UG rfl))),?_⟩;refine⟨_,rfl,_,rfl,p,C,dx,[],rfl,hp,T.cl,T.qL,(by show 0<1000;decide),?_⟩;refine⟨_,rfl,_,rfl,p,C,dx,_,rfl,a8,T.cl,T.WT,(by show 1<1000;decide),λkn hkn=>?_⟩;have wV:p≠kn:=λz=>by rw[<-z,a8] at hkn;cases hkn
 have CP:H kn=none:=by rw[aJ wV.symm,aJ wV.symm] at hkn;exact hkn
 refine⟨_,rfl,p,C,dx,_,rfl,(by rw[aJ wV];exact a8),T.cl,T.lu,?_,?_⟩
 ·show(if("nodes":Str)="width" then[(("nodes":Str),V.int ((wd:Nat):Int))] else(("nodes":Str),V.ref n)::[(("width":Str),V.int ((wd:Nat):Int))]).length<1000
  rw[if_neg WR];show 2<1000;decide
 ·rw[HR]
  exact k kn _ ⟨dx,a8⟩ (by rw[aJ wV.symm,a8]) CP λb o e hb=>by rw[aJ hb,aJ (c6 e CP),aJ hb,aJ hb];exact e
theorem XQ:cQ ["plan","width","nodes","root","search","cost","beyond","line_ends"] ["plan","width"] (cg Gy):=⟨rfl,rfl,rfl, ⋯,rfl, ⋯, ⋯⟩
theorem Md{fI:Addr}{jD:FuncData}(F:cA K "choose" "choose" Gy f fd)(TN:k9 K mg CN)(T:kZ K mg C)(MN:Mk K CN fI)(mN:mg "Nodes"=some (.ref CN))(GI:aH P w K mg base aB 1 fI iD ["self"] (C0 CN))(bI:Binds K iD ["self"] [])
  (MS:Mk K C fJ) (mS:mg "Search"=some (.ref C)) (GJ:aH P w K mg base aB 1 fJ jD ["self","nodes","width"] (D1 C)) (bJ:Binds K jD ["self","nodes","width"] [])
  (RT:MO P w K mg base CN aB 6 fR rD "root_of" ["self","plan"] (C8 CN)) (LC:MO P w K mg base C aB 7 fL lD "least_cost" ["self","waiting","column"] (A9 CN C)) (FS:MO P w K mg base C aB 9 fF sD "first_sides" ["self","root","cost"] (CZ CN C)):aH P w K mg base aB 10 f fd ["plan","width"] JX:=by
 refine F.cU XQ (λvs H Q E h=>?_) (λcdv A outer s H vs Q E hr h=>?_)
 ·obtain⟨r,p,w,rfl,_⟩:=h
  rfl
 obtain⟨r,p,wd,rfl,hP,hlay,hdp,hz,hcp,hg,hfit,q⟩:=h;have nd:=XQ.nd;have hr2:cZ 2 _:=hr.mono (by decide);have Mm:cZ 6 _:=hr.mono (by decide);have My:cZ 7 _:=hr.mono (by decide);obtain⟨tk,mB⟩:=T.sb
 refine⟨_,au (aO (i:=2) nd rfl (Or.inl rfl) (TX MN GI hr2 rfl mN bI .nil aU))<|
  au (aO (i:=3) nd rfl (Or.inl rfl) (dU (a6 2) TN.cl RT.m RT.ok Mm RT.b .nil aU (aq (a6 0) a7)))<|
  au (aO (i:=4) nd rfl (Or.inl rfl) (vt MS GJ hr2 rfl mS bJ .nil aU (aq (a6 2) (aq (a6 1) a7))))<|
  au (aO (i:=5) nd rfl (Or.inl rfl) (dU (a6 4) T.cl LC.m LC.ok My LC.b .nil aU (oR (cX (d0 (bf (aq (a6 3) (aM ak a7))) a7)) (aM ak a7))))<|
  au (aO (i:=6) nd rfl (Or.inl rfl) (bK AF (a6 5) (oO rfl mB (v:=.int 1000000000000) ⟨_,rfl⟩)))<|
  au (aO (i:=7) nd rfl (Or.inl rfl) (bK jE (a6 5) (oO rfl mB (v:=.int 1000000000000) ⟨_,rfl⟩)))<|
  aL (bx (bf (aq (a6 6) (aq (a6 7) (dw (dU (a6 4) T.cl FS.m FS.ok hr FS.b .nil aU (aq (a6 3) (aq (a6 5) a7))) a7))))),?_⟩
 intro n iZ nn XR MA;refine⟨n,iZ,rfl,a8,λla na ga H1 N1 k1 fla XS Y0=>⟨rfl,?_⟩⟩;have s0:Same H (upd (upd H iZ (.own n)) n (.ins CN iZ [])):=λb o e=>by
  rw[aJ (c6 e nn),aJ (c6 e XR)];exact e
 have s1:Same H H1:=λb o e=>k1 b o (s0 b o e) (c6 e nn)
 have MB:H la=none:=s0.free fla;have MC:H na=none:=s0.free XS;have MD:H ga=none:=s0.free Y0;clear k1 s0 fla XS Y0 MA XR;obtain⟨o8,hn1⟩:=N1.ob;refine⟨_,rfl,n,o8,_,rfl,hn1,jc _ _ _ ⋯ ⋯ ⋯,_,rfl,?_⟩;refine⟨n,r,la,na,ga,p,rfl,N1,hP.mono (.of s1),hlay,hdp,hz,hcp,hg,λi T2 L2 H2 N2 hi b2=>?_⟩;have s2:Same H H2:=λb o e=>b2 _ _ (s1 _ _ e) (c6 e MB) (c6 e MC) (c6 e MD)
 clear b2 s1 hn1 N1;refine⟨_,rfl,_,rfl,λsr x8 Y1 ME nes=>?_⟩;have s3:Same H2 (upd (upd H2 x8 (.own sr)) sr (.ins C x8 [])):=λb o e=>by
  rw[aJ (c6 e Y1),aJ (c6 e ME)];exact e
 refine⟨sr,x8,n,wd,rfl,a8,λkn H4 hob hkn Y2 k4=>⟨rfl,?_⟩⟩;have s4:Same H2 H4:=λb o e=>k4 b o (s3 b o e) (c6 e Y1)
 have Ac:=s2.trans s4;have N4:=N2.mono s4;have D3:H2 kn=none:=s3.free Y2;have Y3:H kn=none:=s2.free D3;have Jm:kn≠na:=λz=>by rw[z,N2.nu] at D3;cases D3
 have S4:eO CN C H4 ⟨sr,n,la,na,ga,kn,T2,L2,wd,zl0 wd (aQ p false) 0 0⟩ []:=⟨hob,N4,hkn,nodup_nil,λe he=>(by cases he),hfit.sp,Jm⟩;clear k4 s3 Y2 D3 s4 N2 N4 hkn;obtain⟨MG,Jq⟩:=hob;refine⟨_,rfl,sr,MG,_,rfl,Jq,gY _ _ _ ⋯ ⋯ ⋯,_,rfl,aC,λt1 ht1=>⟨aC,λl1 hl1=>?_⟩⟩;have z1:=ao ht1 (.tup [.int ((i:Nat):Int),.int 0]);have z2:=ao hl1 (.lst [.ref t1]);refine⟨⟨sr,n,la,na,ga,kn,T2,L2,wd,zl0 wd (aQ p false) 0 0⟩,[],l1,[t1],[(aQ p false,0)],0,rfl,S4.mono (z1.trans z2),a8,.cons ⟨i,z2 _ _ a8,hi⟩ .nil,hfit.sq,λk qO H5 S5 b5 hk=>?_⟩;have s5:Same H H5:=λb o e=>b5 _ _ ((z1.trans z2) _ _ (Ac _ _ e)) (c6 e Y3)
 refine⟨_,rfl,_,_,rfl,rfl,rfl,_,rfl,_,_,rfl,rfl,(by show(0:Int)<1000000000000;decide),?_⟩;obtain⟨wZ,x5⟩:=S5.ob;refine⟨_,rfl,_,rfl,_,rfl,sr,wZ,_,rfl,x5,gY _ _ _ ⋯ ⋯ ⋯,_,rfl,_,rfl,?_⟩;refine⟨⟨sr,n,la,na,ga,kn,T2,L2,wd,zl0 wd (aQ p false) 0 0⟩,qO,i,k,aQ p false,rfl,S5,hi,hfit.sq,hk,hfit.sz,λl ss Ks6 H6 S6 b6 nl6 MH D4=>⟨aC,λt ht=>?_⟩⟩;have s6:Same H H6:=λb o e=>b6 _ _ (s5 _ _ e) (c6 e Y3)
 have z6:=ao ht (.tup [.int (((k:Nat):Int) / 1000000000000),.int (((k:Nat):Int) % 1000000000000),.ref l]);exact q t l ss k _ (s6.trans z6) (by rw[a8,Int.natCast_ediv,Int.natCast_emod];rfl) (z6 _ _ MH) D4
abbrev jT:List Plan->Plan:=jn 10
noncomputable def hdT:Tr->Str
 |.name _=>"name"|.num _=>"number"|.call _ _=>"call"|.row _=>"row"|.bin op _ _=>tx [op]
theorem vf : ∀ {t:Tr} {r:Addr},dh H t r->∃xs,H r=some (.tup (.str (hdT t)::xs))
 |.name _,_,h=>⟨_,by rw[dh] at h;exact h⟩
 |.num _,_,h=>⟨_,by rw[dh] at h;exact h⟩
 |.call _ _,_,h=>by rw[dh] at h;obtain⟨_,_,e,_⟩:=h;exact⟨_,e⟩
 |.row _,_,h=>by rw[dh] at h;obtain⟨_,_,e,_⟩:=h;exact⟨_,e⟩
 |.bin _ _ _,_,h=>by rw[dh] at h;obtain⟨_,_,e,_⟩:=h;exact⟨_,e⟩
abbrev oE(t1 t2 t3:Tok):List (Key×Value):=[(.inr "+",.int 1 t1),(.inr "-",.int 1 t2),(.inr "*",.int 2 t3)]
structure JZ(P:Program)(w:World)(mg:eV)(base:Heap)(dT:Addr)(t1 t2 t3:Tok):Prop where
 mT:mg "TIGHTNESS"=some (.ref dT)
 sT:(dT==sysModules)=false
 dd:base.DictOf (eG P w) dT (oE t1 t2 t3)
theorem MI:tx [43]=("+":Str):=by decide +kernel
theorem ML:tx [45]=("-":Str):=by decide +kernel
theorem MQ:tx [42]=("*":Str):=by decide +kernel
theorem K0(t1 t2 t3:Tok) (h:t.ok):(gU t=none/\valueAt (oE t1 t2 t3) (Sum.inr (hdT t):Key)=none)\/∃k tk,gU t=some k/\valueAt (oE t1 t2 t3) (Sum.inr (hdT t):Key)=some (.int (k:Nat) tk):=by
 have no:∀x:Str,¬("+":Str)=x->¬("-":Str)=x->¬("*":Str)=x->valueAt (oE t1 t2 t3) (Sum.inr x:Key)=none:=λx h1 h2 h3=>by simp[valueAt,oE,h1,h2,h3]
 cases t with
 |name s=>exact .inl ⟨rfl,no "name" ⋯ ⋯ ⋯⟩
 |num s=>exact .inl ⟨rfl,no "number" ⋯ ⋯ ⋯⟩
 |call s ts=>exact .inl ⟨rfl,no "call" ⋯ ⋯ ⋯⟩
 |row ts=>exact .inl ⟨rfl,no "row" ⋯ ⋯ ⋯⟩
 |bin op a b=>
  rw[Tr.ok] at h
  have h1:¬("+":Str)="-":=by decide +kernel
  have h2:¬("+":Str)="*":=by decide +kernel
  have h3:¬("-":Str)="*":=by decide +kernel
  rcases h.1 with rfl|rfl|rfl
  ·exact .inr ⟨1,t1,rfl,by show valueAt _ (Sum.inr (tx [43]):Key)=_;rw[MI];simp[valueAt,oE]⟩
  ·exact .inr ⟨1,t2,rfl,by show valueAt _ (Sum.inr (tx [45]):Key)=_;rw[ML];simp[valueAt,oE,h1]⟩
  ·exact .inr ⟨2,t3,rfl,by show valueAt _ (Sum.inr (tx [42]):Key)=_;rw[MQ];simp[valueAt,oE,h2,h3]⟩
def x9:Nat->Sp
 |0=>λ_ _ _ _=>False
 |d+1=>λvs H Q _=>∃(r:Addr) (t:Tr),vs=[.ref r]/\dh H t r/\t.ok/\t.deep<=d/\t.deep<=3/\∀(r':Addr) (H':Hp),Same H H'->aZ H' (bh jT t) r'->Q (.ref r') H'
inductive D5(vs:List V)(H:Hp)(Q:VK)(E':XK):Prop
 |mk (n:Nat) (z0:vs=[.int (n:Nat)]) (z1:n<100000000000) (z2:∀H',Same H H'->Q (.str (tx (lR n))) H'):D5 vs H Q E'
inductive K1(d:Nat)(vs:List V)(H:Hp)(Q:VK)(E':XK):Prop
 |mk (o c:List Nat) (l:Addr) (as:List Addr) (ts:List Tr) (z0:vs=[.str (tx o),.ref l,.str (tx c)]) (z1:o.length<=100) (z2:c.length<=100) (z3:H l=some (.tup (as.map V.ref))) (z4:dZ H ts as) (z5:Tr.j9 ts) (z6:ts.length<=3) (z7:Tr.eN ts<d) (z8:Tr.eN ts<3) (z9:∀(r':Addr) (H':Hp),Same H H'->aZ H' (iJ jT o (dH jT ts) c) r'->Q (.ref r') H'):K1 d vs H Q E'
inductive K3(d:Nat)(vs:List V)(H:Hp)(Q:VK)(E':XK):Prop
 |mk (r:Addr) (t:Tr) (k:Nat) (z0:vs=[.ref r,.int (k:Nat)]) (z1:dh H t r) (z2:t.ok) (z3:t.deep<d) (z4:t.deep<=3) (z5:∀(r':Addr) (H':Hp),Same H H'->aZ H' (f7 jT k t (bh jT t)) r'->Q (.ref r') H'):K3 d vs H Q E'
inductive K4(d:Nat)(vs:List V)(H:Hp)(Q:VK)(E':XK):Prop
 |mk (r:Addr) (op:Nat) (a b:Tr) (z0:vs=[.ref r]) (z1:dh H (.bin op a b) r) (z2:(Tr.bin op a b).ok) (z3:(Tr.bin op a b).deep<=d) (z4:(Tr.bin op a b).deep<=3) (z5:∀(r':Addr) (H':Hp),Same H H'->aZ H' (bh jT (.bin op a b)) r'->Q (.ref r') H'):K4 d vs H Q E'
section
variable {t1 t2 t3:Tok}
theorem Y4:cQ ["tree","kind"] ["tree"] (cg GD):=⟨rfl,rfl,rfl, ⋯,rfl, ⋯, ⋯⟩
theorem MR  {dF:FuncData}(F:cA K "plan_of" "plan_of" GD f fd)
  (GF:aH P w K mg base aB 1 fF dF ["number"] D5) (bF:Binds K dF ["number"] []) (kF:keepIn K (.ref fF)=true) (mF:mg "figures_of"=some (.ref fF))
  (GP:aH P w K mg base aB n fP dP ["opening","parts","closing"] (K1 d)) (bP:Binds K dP ["opening","parts","closing"] []) (kP:keepIn K (.ref fP)=true) (mP:mg "plan_of_parts"=some (.ref fP))
  (GO:aH P w K mg base aB n fO dO ["tree"] (K4 d)) (bO:Binds K dO ["tree"] []) (kO:keepIn K (.ref fO)=true) (mO:mg "plan_of_operands"=some (.ref fO)) (hn:1<=n):aH P w K mg base aB (n+1) f fd ["tree"] (x9 (d+1)):=by
 refine F.cU Y4 (λvs H Q E h=>?_) (λcdv A outer s H vs Q E hr h=>?_)
 ·obtain⟨r,t,rfl,_⟩:=h
  rfl
 obtain⟨r,t,rfl,hT,ho,hd,gw,q⟩:=h;have nd:=Y4.nd;have hr1:cZ 1 _:=hr.mono hn
 refine⟨_,au (aO (i:=1) nd rfl (Or.inl rfl) (aF aN (a6 0) ak (λ_ _=>rfl)))<|
  au (cN (cI d8 (a6 1) aK (cP _)) (aL (bx (bf (aM aK (cF (aF aN (a6 0) ak (λ_ _=>rfl)) a7))))) cW)<|
  au (cN (cI d8 (a6 1) aK (cP _)) (aL (bx (bf (aM aK (dw (c9 GF hr1 rfl mF kF bF .nil aU (cF (aF aN (a6 0) ak (λ_ _=>rfl)) a7)) a7))))) cW)<|
  au (cN (cI d8 (a6 1) aK (cP _)) (aL (bx (c9 GP hr rfl mP kP bP .nil aU (iC (bK pQ (aF aN (a6 0) ak (λ_ _=>rfl)) aK) (cF (aF aN (a6 0) ak (λ_ _=>rfl)) (aM aK a7)))))) cW)<|
  au (cN (cI d8 (a6 1) aK (cP _)) (aL (bx (c9 GP hr rfl mP kP bP .nil aU (aM aK (cF (aF aN (a6 0) ak (λ_ _=>rfl)) (aM aK a7)))))) cW)<|
  aL (bx (c9 GO hr rfl mO kO bO .nil aU (aq (a6 0) a7))),?_⟩
 cases t with
 |name x=>
  have hT:H r=some (.tup [.str "name",.str (tx x)]):=by rw[dh] at hT;exact hT
  refine⟨_,rfl,r,_,_,_,rfl,rfl,a9.of hT,rfl,_,rfl,rfl,_,rfl,cG ⋯ ?_⟩;refine⟨_,rfl,r,_,_,_,rfl,rfl,a9.of hT,rfl,aC,λp hp=>q p _ (ao hp _) ?_⟩;show aZ _ (bV jT (.name x)).1 p;rw[bV];exact a8
 |num x=>
  have hT:H r=some (.tup [.str "number",.int (x:Nat)]):=by rw[dh] at hT;exact hT
  rw[Tr.ok] at ho
  refine⟨_,rfl,r,_,_,_,rfl,rfl,a9.of hT,rfl,_,rfl,rfl,_,rfl,aP ⋯ ?_⟩;refine⟨_,rfl,rfl,_,rfl,cG ⋯ ?_⟩;refine⟨_,rfl,r,_,_,_,rfl,rfl,a9.of hT,rfl,x,rfl,ho,λH1 s1=>⟨aC,λp hp=>q p _ (s1.trans (ao hp _)) ?_⟩⟩;show aZ _ (bV jT (.num x)).1 p;rw[bV];exact a8
 |call x ts=>
  obtain⟨l,as,hT,hl,hts⟩:∃l as,H r=some (.tup [.str "call",.str (tx x),.ref l])/\H l=some (.tup (as.map V.ref))/\dZ H ts as:=by rw[dh] at hT;exact hT
  rw[Tr.ok] at ho
  have hd':Tr.eN ts+1<=d:=hd;have K5:Tr.eN ts+1<=3:=gw;refine⟨_,rfl,r,_,_,_,rfl,rfl,a9.of hT,rfl,_,rfl,rfl,_,rfl,aP ⋯ ?_⟩;refine⟨_,rfl,rfl,_,rfl,aP ⋯ ?_⟩;refine⟨_,rfl,rfl,_,rfl,cG ⋯ ?_⟩
  have eo:tx x++Str.ofString "("=tx (x++[40]):=by rw[<-j8];congr 1
  refine⟨_,rfl,r,_,_,_,rfl,rfl,a9.of hT,rfl,_,_,rfl,rfl,d4 (by rw[dz];have:=ho.1.1;show _+1<=_;omega),_,rfl,r,_,_,_,rfl,rfl,a9.of hT,rfl,?_⟩;rw[eo];refine⟨x++[40],[41],l,as,ts,rfl,by rw[length_append];have:=ho.1.1;show _+1<=_;omega,by decide,hl,hts,ho.2.2,ho.2.1,by omega,by omega,λr' H' s' P'=>q r' H' s' ?_⟩;show aZ _ (bV jT (.call x ts)).1 r';rw[bV];exact P'
 |row ts=>
  obtain⟨l,as,hT,hl,hts⟩:∃l as,H r=some (.tup [.str "row",.ref l])/\H l=some (.tup (as.map V.ref))/\dZ H ts as:=by rw[dh] at hT;exact hT
  rw[Tr.ok] at ho
  have hd':Tr.eN ts+1<=d:=hd;have K5:Tr.eN ts+1<=3:=gw;refine⟨_,rfl,r,_,_,_,rfl,rfl,a9.of hT,rfl,_,rfl,rfl,_,rfl,aP ⋯ ?_⟩;refine⟨_,rfl,rfl,_,rfl,aP ⋯ ?_⟩;refine⟨_,rfl,rfl,_,rfl,aP ⋯ ?_⟩;refine⟨_,rfl,rfl,_,rfl,cG ⋯ ?_⟩;refine⟨_,rfl,r,_,_,_,rfl,rfl,a9.of hT,rfl,?_⟩;refine⟨[91],[93],l,as,ts,rfl,by decide,by decide,hl,hts,ho.2,ho.1,by omega,by omega,λr' H' s' P'=>q r' H' s' ?_⟩;show aZ _ (bV jT (.row ts)).1 r';rw[bV];exact P'
 |bin op a b=>
  obtain⟨xs,hx⟩:=vf hT;have ho':=ho;rw[Tr.ok] at ho'
  have ne:∀x:Str,(x="name"\/x="number"\/x="call"\/x="row")->¬(decide (V.str (hdT (.bin op a b))=V.str x)=true):=λx hq z=>by
   have z:=V.str.inj (of_decide_eq_true z);have z:tx [op]=x:=z;rcases ho'.1 with rfl|rfl|rfl<;>rcases hq with rfl|rfl|rfl|rfl<;>revert z<;>decide +kernel
  refine⟨_,rfl,r,_,_,_,rfl,rfl,a9.of hx,(by show dN (V.str (hdT (.bin op a b))::xs) ((0:Nat):Int)=_;exact gF rfl),_,rfl,rfl,_,rfl,aP (ne _ (.inl rfl)) ?_⟩;refine⟨_,rfl,rfl,_,rfl,aP (ne _ (.inr (.inl rfl))) ?_⟩;refine⟨_,rfl,rfl,_,rfl,aP (ne _ (.inr (.inr (.inl rfl)))) ?_⟩;refine⟨_,rfl,rfl,_,rfl,aP (ne _ (.inr (.inr (.inr rfl)))) ?_⟩;exact⟨_,rfl,r,op,a,b,rfl,hT,ho,hd,gw,q⟩
end
theorem Y5  (s:Same H H1)(n:H D=none)(b:cB D H1 H2):Same H H2:=λc o e=>b _ _ (s _ _ e) (c6 e n)
section
variable {t1 t2 t3:Tok}
theorem Y6:cQ ["tree","tightness","plan"] ["tree","tightness"] (cg GZ):=⟨rfl,rfl,rfl, ⋯,rfl, ⋯, ⋯⟩
theorem MT   (F:cA K "plan_of_operand" "plan_of_operand" GZ f fd)(T:JZ P w mg base dT t1 t2 t3)
  (GE:aH P w K mg base aB n fE dE ["tree"] (x9 d)) (bE:Binds K dE ["tree"] []) (kE:keepIn K (.ref fE)=true) (mE:mg "plan_of"=some (.ref fE))
  (GJ:aH P w K mg base aB 10 fJ dJ ["plans"] (uI 10)) (bJ:Binds K dJ ["plans"] []) (kJ:keepIn K (.ref fJ)=true) (mJ:mg "joined"=some (.ref fJ)) (hn:10<=n):aH P w K mg base aB (n+1) f fd ["tree","tightness"] (K3 d):=by
 refine F.cU Y6 (λvs H Q E h=>?_) (λcdv A outer s H vs Q E hr h=>?_)
 ·obtain⟨r,t,k,rfl,_⟩:=h
  rfl
 obtain⟨r,t,k,rfl,hT,ho,hd,gw,q⟩:=h;have nd:=Y6.nd;have vg:cZ 10 _:=hr.mono hn
 refine⟨_,au (aO (i:=2) nd rfl (Or.inl rfl) (c9 GE hr rfl mE kE bE .nil aU (aq (a6 0) a7)))<|
  au (cN (cI kB (Bi T.sT T.dd (oO rfl T.mT (v:=.ref dT) rfl) (aF aN (a6 0) ak (λ_ _=>rfl)) (bK iQ (a6 1) ak) ⟨rfl,rfl,rfl,rfl⟩) (a6 1) (cP _)) (aL (bx (a6 2))) cW)<|
  aL (bx (c9 GJ vg rfl mJ kJ bJ .nil aU (oR (cX (d0 (bf (aM aK (aM aK a7))) (d0 (bf (aM aK (aq (a6 2) a7))) (d0 (bf (aM aK (aM aK a7))) a7)))) a7))),?_⟩
 cases d with
 |zero=>omega
 |succ d=>
 refine⟨_,rfl,r,t,rfl,hT,ho,by omega,gw,λr1 H1 s1 P1=>?_⟩;obtain⟨xs,hx⟩:=vf hT;have hat:dN (V.str (hdT t)::xs) (0:Int)=some (.str (hdT t)):=by show dN (V.str (hdT t)::xs) ((0:Nat):Int)=_;exact gF rfl
 refine⟨rfl,_,rfl,r,_,_,_,rfl,rfl,a9.of (s1 _ _ hx),hat,_,rfl,_,_,rfl,rfl,hdT t,rfl,?_⟩;have yes:bare k t=true->Q (.ref r1) H1:=λz=>q r1 H1 s1 (by unfold f7;rw[if_pos z];exact P1)
 have no:bare k t=false->∀(H':Hp),True:=λ_ _=>trivial
 have brk:bare k t=false->∃(R:Prop),R:=λ_=>⟨True,trivial⟩
 have fin:bare k t=false->(Er (iz (vG (iz (tC (.str "text")) (iz (tC (.str "(")) oK))) (iz (vG (iz (tC (.str "align")) (iz (jB 2) oK))) (iz (vG (iz (tC (.str "text")) (iz (tC (.str ")")) oK))) oK)))) [some (.ref r),some (.int (k:Nat)),some (.ref r1)] H1 (λl H2=>uI 10 [l] H2 Q E):=λz=>by
  refine⟨aC,λp1 h1=>⟨_,rfl,aC,λp2 h2=>⟨aC,λp3 h3=>⟨aC,λl hl=>?_⟩⟩⟩⟩
  have n1:=ao h1 (.tup [.str "text",.str "("])
  have n2:=ao h2 (.tup [.str "align",.ref r1])
  have n3:=ao h3 (.tup [.str "text",.str ")"])
  have n4:=ao hl (.lst [.ref p1,.ref p2,.ref p3])
  have Ad:(Str.ofString "(")=tx [40]:=by decide +kernel
  have K6:(Str.ofString ")")=tx [41]:=by decide +kernel
  refine⟨l,[p1,p2,p3],[.text [40],.align (bh jT t),.text [41]],rfl,a8,.cons ?_ (.cons ?_ (.cons ?_ .nil)),(by show 3<=10;decide),(by show 3<=1000;decide),λr' H' s' P'=>q r' H' (s1.trans (n1.trans (n2.trans (n3.trans (n4.trans s'))))) (by unfold f7;rw[if_neg (by rw[z];decide)];exact P')⟩
  ·show _=some (HO.tup [.str "text",.str (tx [40])])
   rw[<-Ad];exact n4 _ _ (n3 _ _ (n2 _ _ a8))
  ·exact⟨r1,n4 _ _ (n3 _ _ a8),P1.mono (.of (n1.trans (n2.trans (n3.trans n4))))⟩
  ·show _=some (HO.tup [.str "text",.str (tx [41])])
   rw[<-K6];exact n4 _ _ a8
 rcases K0 t1 t2 t3 ho with⟨e1,e2⟩|⟨k',tk,e1,e2⟩
 ·refine .inr ⟨e2,_,rfl,_,_,rfl,rfl,_,rfl,cG (by show decide (((k:Nat):Int)<((k:Nat):Int)+1)=true;exact decide_eq_true (by omega)) ⟨_,rfl,yes ?_⟩⟩
  unfold bare;rw[e1];exact decide_eq_true (by show k<k+1;omega)
 ·refine .inl ⟨.int (k':Nat),_,e2,⟨_,rfl⟩,_,rfl,_,_,rfl,rfl,_,rfl,?_⟩
  by_cases hk:k<k'
  ·refine cG (by show decide (((k:Nat):Int)<((k':Nat):Int))=true;exact decide_eq_true (by omega)) ⟨_,rfl,yes ?_⟩
   unfold bare;rw[e1];exact decide_eq_true hk
  ·refine aP (by show ¬decide (((k:Nat):Int)<((k':Nat):Int))=true;rw[decide_eq_false (by omega)];decide) (fin ?_)
   unfold bare;rw[e1];exact decide_eq_false hk
theorem Y7:cQ ["opening","parts","closing","inside","part"] ["opening","parts","closing"] (cg GQ):=⟨rfl,rfl,rfl, ⋯,rfl, ⋯, ⋯⟩
theorem MU   (F:cA K "plan_of_parts" "plan_of_parts" GQ f fd)
  (GE:aH P w K mg base aB n fE dE ["tree"] (x9 d)) (bE:Binds K dE ["tree"] []) (kE:keepIn K (.ref fE)=true) (mE:mg "plan_of"=some (.ref fE))
  (GJ:aH P w K mg base aB 10 fJ dJ ["plans"] (uI 10)) (bJ:Binds K dJ ["plans"] []) (kJ:keepIn K (.ref fJ)=true) (mJ:mg "joined"=some (.ref fJ))
  (GG:aH P w K mg base aB 1 fG dG ["plan"] yU) (bG:Binds K dG ["plan"] []) (kG:keepIn K (.ref fG)=true) (mG:mg "group"=some (.ref fG)) (hn:10<=n):aH P w K mg base aB (n+1) f fd ["opening","parts","closing"] (K1 d):=by
 refine F.cU Y7 (λvs H Q E h=>?_) (λcdv A outer s H vs Q E hr h=>?_)
 ·obtain⟨o,c,l,as,ts,rfl,_⟩:=h
  rfl
 obtain⟨o,c,l,as,ts,rfl,ho,hc,hl,hT,hok,h3,hd,gw,q⟩:=h;have nd:=Y7.nd;have vg:cZ 10 _:=hr.mono hn;have hr1:cZ 1 _:=hr.mono (by omega)
 refine⟨_,au (cN (Fz (nY (a6 1) (λ_=>rfl))) (aL (bx (bf (aM aK (iC (bK pQ (a6 0) (a6 2)) a7))))) cW)<|
  au (aO (i:=3) nd rfl (Or.inl rfl) (cX (d0 (bf (aM aK a7)) (dw (c9 GE hr rfl mE kE bE .nil aU (cF (aF aN (a6 1) ak (λ_ _=>rfl)) a7)) a7))))<|
  au (lK PassesOwn.never rfl (vn (yF oz (a6 1) (yE ak) yq)) (jX (i:=4) nd rfl (Or.inl rfl))
   (aL (fZ (gG plainAttrs_list slot_list_extend type_list_extend qZ (a6 3) (oR (cX (d0 (bf (aM aK (aM aK a7))) (d0 (bf (aM aK a7)) (dw (c9 GE hr rfl mE kE bE .nil aU (aq (a6 4) a7)) a7)))) a7)))))<|
  aL (bx (c9 GG hr1 rfl mG kG bG .nil aU (dw (c9 GJ vg rfl mJ kJ bJ .nil aU (oR (cX (d0 (bf (aM aK (aq (a6 0) a7))) (d0 (bf (aM aK (aM ak (dw (c9 GJ vg rfl mJ kJ bJ .nil aU (aq (a6 3) a7)) a7)))) (d0 (bf (aM aK a7)) (d0 (bf (aM aK (aq (a6 2) a7))) a7))))) a7)) a7))),?_⟩
 have hlen:=hT.len;have K7:(Str.ofString ",")=tx [44]:=by decide +kernel
 refine⟨_,rfl,_,.inr (.inl ⟨_,a9.of hl,rfl⟩),?_⟩;cases ts with
 |nil=>
  have e:as=[]:=by rw[dZ] at hT;exact hT
  subst e;refine cG (by simp) ?_;refine⟨_,rfl,_,rfl,_,_,rfl,rfl,d4 (by rw[dz,dz];omega),aC,λp hp=>q p _ (ao hp _) ?_⟩;rw[dH];show _=some (HO.tup [.str "text",.str (tx (o++c))])
  rw[<-j8];exact a8
 |cons t ts=>
  obtain⟨a,as',rfl,ht,hts⟩:∃a rest,as=a::rest/\dh H t a/\dZ H ts rest:=by rw[dZ] at hT;exact hT
  rw[Tr.j9] at hok
  have hdt:max t.deep (Tr.eN ts)<d:=hd;have zh5:max t.deep (Tr.eN ts)<3:=gw;cases d with
  |zero=>omega
  |succ d=>
  have j7:ts.length<=2:=by rw[length_cons] at h3;omega
  refine aP (by simp) ?_;refine⟨aC,λp0 hp0=>?_⟩;have n0:=ao hp0 (.tup [.str "cut"])
  refine⟨_,rfl,l,_,_,.ref a,rfl,rfl,a9.of (n0 _ _ hl),(by show dN (V.ref a::as'.map V.ref) ((0:Nat):Int)=_;exact gF rfl),a,t,rfl,ht.mono (.of n0),hok.1,by omega,by omega,λr1 H1 s1 P1=>?_⟩;refine⟨aC,λD hD=>?_⟩;have n2:=ao hD (.lst [.ref p0,.ref r1]);have vh:Same H (upd H1 D (.lst [.ref p0,.ref r1])):=n0.trans (s1.trans n2);have MV:H D=none:=(n0.trans s1).free hD;have MX:aZ (upd H1 D (.lst [.ref p0,.ref r1])) .cut p0:=n2 _ _ (s1 _ _ a8);have MY:aZ (upd H1 D (.lst [.ref p0,.ref r1])) (bh jT t) r1:=P1.mono (.of n2);refine⟨_,rfl,_,rfl,l,_,rfl,a9.of (vh _ _ hl),(λz=>by have:=z.1;simp[HT.cT] at this),λu hu=>?_⟩;have K8:iT ((a::as').map V.ref) (some 1) none=as'.map V.ref:=by
   show iT (V.ref a::as'.map V.ref) (some ((1:Nat):Int)) none=_;rw[Ii];rfl
  rw[K8];have n3:=ao hu (.tup (as'.map V.ref));have vm:(upd (upd H1 D (.lst [.ref p0,.ref r1])) u (.tup (as'.map V.ref))) D=some (.lst [.ref p0,.ref r1]):=n3 _ _ a8;have m8:(upd (upd H1 D (.lst [.ref p0,.ref r1])) u (.tup (as'.map V.ref))) u=some (.tup (as'.map V.ref)):=a8;have Y8:=aZ.mono (.of n3) MX;have Y9:=MY.mono (.of n3);have pH:=vh.trans n3
  generalize upd (upd H1 D (.lst [.ref p0,.ref r1])) u (.tup (as'.map V.ref))=H3 at vm m8 Y8 Y9 pH
  have MZ:u≠D:=cR m8 vm (by intro z;cases z);have K9:=dZ.mono (.of pH) hts
  refine⟨u,rfl,⟨_,a9.of m8⟩,kd (K:=K) (a:=u) (xs:=as'.map V.ref) (λi σ H4=>∃(v4:Option V) (bs:List Addr),σ=[some (.str (tx o)),some (.ref l),some (.str (tx c)),some (.ref D),v4]/\cB D H3 H4/\H4 D=some (.lst (bs.map V.ref))/\cM H4 bs (gk (bh jT t::(ts.take i).map (bh jT))))
   ⟨_,[p0,r1],rfl,cB.refl,vm,.cons Y8 (.cons Y9 .nil)⟩ (λi σ H4 _ ⟨_,_,_,b,_⟩=>a9.of (b _ _ m8 MZ)) ?_ ?_⟩
  ·rintro i x σ H4 hx ⟨v4,bs,rfl,b4,oF,P4⟩
   have hi:i<as'.length:=by have:=(List.getElem?_eq_some_iff.mp hx).1;rwa [length_map] at this
   have hlt:=K9.len;have hti:ts[i]? = some ts[i]:=getElem?_eq_getElem (by omega)
   generalize ts[i]=ti at hti
   obtain⟨ai,hai,hTi⟩:=dZ.get K9 hti;rw[getElem?_map,hai] at hx
   cases hx;have Nc:bQ H3 H4:=λb xs e=>b4 _ _ e (cR e vm (by intro z;cases z))
   have him:ti∈ts:=mem_of_getElem? hti;have hdi:=uJ him;have tM:=nA P4;have hil:=qw (bh jT t::(ts.take i).map (bh jT));have htl:(ts.take i).length<=2:=by rw[length_take];omega
   rw[length_cons,length_map] at hil
   refine⟨_,rfl,.inl ⟨rfl,_,aG.of oF⟩,aC,λp1 h1=>⟨aC,λp2 h2=>?_⟩⟩;have m1:=ao h1 (.tup [.str "text",.str ","])
   have m2:=ao h2 (.tup [.str "line"])
   refine⟨_,rfl,ai,ti,rfl,(hTi.mono Nc).mono (.of (m1.trans m2)),su hok.2 him,by omega,by omega,λr5 H5 s5 P5=>⟨aC,λE1 jy=>?_⟩⟩;have m3:=ao jy (.lst [.ref p1,.ref p2,.ref r5]);have m4:Same H4 _:=m1.trans (m2.trans (s5.trans m3));refine⟨D,E1,_,_,rfl,rfl,m4 _ _ oF,a8,d4 (by rw[length_map];show _+3<=_;omega),?_⟩;have c1:aZ (upd H5 E1 (.lst [.ref p1,.ref p2,.ref r5])) (.text [44]) p1:=by
    show _=some (HO.tup [.str "text",.str (tx [44])])
    rw[<-K7];exact m3 _ _ (s5 _ _ (m2 _ _ a8))
   have c2:aZ (upd H5 E1 (.lst [.ref p1,.ref p2,.ref r5])) .line p2:=m3 _ _ (s5 _ _ a8);have c3:=P5.mono (.of m3);have Ae:=m4 _ _ oF;have P6:=cM.mono (.of m4) P4
   generalize upd H5 E1 (.lst [.ref p1,.ref p2,.ref r5])=H6 at m4 c1 c2 c3 Ae P6
   have tu:bQ H6 (upd H6 D (.lst (bs.map V.ref++[.ref p1,.ref p2,.ref r5]))):=dX Ae;refine⟨_,bs++[p1,p2,r5],rfl,b4.trans ((cB.of m4).trans qJ),by rw[a8,map_append];rfl,?_⟩;have e:gk (bh jT t::(ts.take (i+1)).map (bh jT))=gk (bh jT t::(ts.take i).map (bh jT))++[.text [44],.line,bh jT ti]:=by
    rw[zk3 hti,map_append];show Plan.cut::bh jT t::List.flatMap _ _=(Plan.cut::bh jT t::List.flatMap _ _)++_;rw[flatMap_append];rfl
   rw[e];exact cM.append (cM.mono tu P6) (.cons (c1.mono tu) (.cons (c2.mono tu) (.cons (c3.mono tu) .nil)))
  ·rintro σ H4 ⟨v4,bs,rfl,b4,oF,P4⟩
   have hlt:=K9.len;rw[length_map,hlt,take_length] at P4
   have Ac:Same H H4:=Y5 pH MV b4;have ep:dH jT (t::ts)=bh jT t::ts.map (bh jT):=by rw[jO];rfl
   have tM:=nA P4;have hil:=qw (bh jT t::ts.map (bh jT));rw[length_cons,length_map] at hil
   refine⟨_,rfl,aC,λp1 h1=>?_⟩;have m1:=ao h1 (.tup [.str "text",.str (tx o)])
   refine⟨_,rfl,D,bs,_,rfl,m1 _ _ oF,cM.mono (.of m1) P4,(by show(gk _).length<=10;omega),by omega,λr5 H5 s5 P5=>⟨aC,λp2 h2=>⟨aC,λp3 h3'=>⟨_,rfl,aC,λp4 h4=>⟨aC,λE1 jy=>?_⟩⟩⟩⟩⟩;have m2:=ao h2 (.tup [.str "nest",.int 2,.ref r5])
   have m3:=ao h3' (.tup [.str "cut"])
   have m4:=ao h4 (.tup [.str "text",.str (tx c)])
   have m5:=ao jy (.lst [.ref p1,.ref p2,.ref p3,.ref p4]);have vo:=m2.trans (m3.trans (m4.trans m5));refine⟨E1,[p1,p2,p3,p4],[.text o,.nest 2 (jT (gk (bh jT t::ts.map (bh jT)))),.cut,.text c],rfl,a8,.cons (vo _ _ (s5 _ _ a8)) (.cons ⟨r5,m5 _ _ (m4 _ _ (m3 _ _ a8)),P5.mono (.of vo)⟩ (.cons (m5 _ _ (m4 _ _ a8)) (.cons (m5 _ _ a8) .nil))),(by show 4<=10;decide),(by show 4<=1000;decide),λr6 H6 s6 P6=>?_⟩;refine⟨r6,_,rfl,P6,λr7 H7 s7 P7=>q r7 H7 (Ac.trans (m1.trans (s5.trans (vo.trans (s6.trans s7))))) ?_⟩;rw[ep];exact P7
end
end Pq
namespace L2
open PySem PySem.Spec PyProof.Rows
open PySem.SeqAt PySem.MeetsSeq PySem.MeetsSeq2 PySem.MeetsSeq3
open PySem.AutoSeq1 (wpAny_loadPart')
theorem Nw{ns ms:List Int}{i:Nat}(h1:i<ns.length)(h2:i<ms.length):HT.lexLt (ns.drop i) (ms.drop i)=if ns[i]=ms[i] then HT.lexLt (ns.drop (i+1)) (ms.drop (i+1)) else decide (ns[i]<ms[i]):=by
 rw[drop_eq_getElem_cons h1,drop_eq_getElem_cons h2,HT.yp]
theorem NA{ns ms:List Int}{i:Nat}(h:ns.length<=i\/ms.length<=i)(h1:i<=ns.length)(h2:i<=ms.length):HT.lexLt (ns.drop i) (ms.drop i)=decide (ns.length<ms.length):=by
 by_cases c:i<ms.length
 ·have e1:ns.drop i=[]:=List.drop_of_length_le (by omega)
  rw[e1,drop_eq_getElem_cons c,HT.nK,decide_eq_true (by omega)]
 ·have e2:ms.drop i=[]:=List.drop_of_length_le (by omega)
  rw[e2,decide_eq_false (by omega)];cases ns.drop i with
  |nil=>rfl
  |cons _ _=>rfl
theorem Yb{vs:List Value}{ns:List Int}(h:IntsAre vs ns){i:Nat}(h1:i<vs.length)(h2:i<ns.length):∃t,vs[i]=.int ns[i] t:=by
 induction h generalizing i with
 |nil=>simp at h1
 |cons a t hr ih=>
  cases i with
  |zero=>exact⟨t,rfl⟩
  |succ i=>exact ih (i:=i) (by simpa using h1) (by simpa using h2)
theorem NB(l b:Addr)(items items2:Array Value)(n n2:Nat)(ns ms:List Int)(hi:IntsAre items.toList ns)(hj:IntsAre items2.toList ms)(k:Nat):∀i:Nat,min ns.length ms.length - i=k->i<=ns.length->i<=ms.length->
  Meets (Builtin.«list.__eq__.loop» ⟨[.ref l,.ref b,rawInt i,rawInt 0],[]⟩) (λ_ R s=>s.heap.get? l=some { cls:=.type "list",data:=.seq items n }/\s.heap.get? b=some { cls:=.type "list",data:=.seq items2 n2 }/\R (.ok (.ret (.bool (HT.lexLt (ns.drop i) (ms.drop i))))) s):=by
 have z1:items.size=ns.length:=by rw[<-hi.length];simp
 have z2:items2.size=ms.length:=by rw[<-hj.length];simp
 induction k with
 |zero=>
  intro i hk hi1 hi2 prog w A R s h;obtain⟨hp,g,d,tk,os⟩:=s;obtain⟨hl,hb,h⟩:=h;rw[NA (by omega) hi1 hi2] at h
  wp_walk using wpAny_loadPart' hl,wpAny_loadPart' hb
  by_cases c:i<ns.length
  ·have e1:items[((i:Nat):Int).toNat]? = some items[i]:=by simp[z1,c]
   have e2:items2[((i:Nat):Int).toNat]? = none:=by simp;omega
   rw[e1,e2];wp_walk using wpAny_loadPart' hl,wpAny_loadPart' hb;show R (.ok (.ret (.bool (decide (items.size<items2.size))))) _;rw[z1,z2];exact h
  ·have e1:items[((i:Nat):Int).toNat]? = none:=by simp;omega
   rw[e1];wp_walk using wpAny_loadPart' hl,wpAny_loadPart' hb;show R (.ok (.ret (.bool (decide (items.size<items2.size))))) _;rw[z1,z2];exact h
 |succ k ih=>
  intro i hk hi1 hi2 prog w A R s h;obtain⟨hp,g,d,tk,os⟩:=s;obtain⟨hl,hb,h⟩:=h;have c1:i<ns.length:=by omega
  have c2:i<ms.length:=by omega
  rw[Nw c1 c2] at h
  wp_walk using wpAny_loadPart' hl,wpAny_loadPart' hb
  have e1:items[((i:Nat):Int).toNat]? = some items[i]:=by simp[z1,c1]
  have e2:items2[((i:Nat):Int).toNat]? = some items2[i]:=by simp[z2,c2]
  have hc:((i:Int)+1)=((i+1:Nat):Int):=by omega
  obtain⟨t,ht⟩:=Yb hi (i:=i) (by simp[z1,c1]) c1;obtain⟨u,hu⟩:=Yb hj (i:=i) (by simp[z2,c2]) c2;have ht:items[i]=.int ns[i] t:=by simpa using ht
  have hu:items2[i]=.int ms[i] u:=by simpa using hu
  rw[e1,e2,ht,hu];obtain⟨e,he,hiff⟩:=HT.nL A.in1 ⟨hp,g,d,tk,os⟩ ns[i] t ms[i] u;refine wpAny_bind (he prog w _ _ ?_);cases e with
  |true=>
   rw[if_pos (hiff.mp rfl)] at h
   wp_walk
   rw[hc];exact⟨plainId_quiet plain_eq_loop _,codeAny_builtin entry_eq_loop (by rw[Around.under_plainId plain_eq_loop _];exact ih (i+1) (by omega) (by omega) (by omega) prog w A R _ ⟨hl,hb,h⟩)⟩
  |false=>
   rw[if_neg (λq=>absurd (hiff.mpr q) Bool.false_ne_true)] at h
   wp_walk using wpAny_loadPart' hl,wpAny_loadPart' hb
   rw[e1,e2,ht,hu];have Ka:=HT.Eu A.in1 ⟨hp,g,d,tk,os⟩ ns[i] t ms[i] u prog w
   wp_walk using Ka
   exact h
theorem NC(l b:Addr)(items items2:Array Value)(n n2:Nat)(ns ms:List Int)(hi:IntsAre items.toList ns)(hj:IntsAre items2.toList ms):
  Meets (Builtin.«list.__lt__» ⟨[.ref l,.ref b],[]⟩) (λ_ R s=>s.heap.get? l=some { cls:=.type "list",data:=.seq items n }/\s.heap.get? b=some { cls:=.type "list",data:=.seq items2 n2 }/\R (.ok (.ret (.bool (HT.lexLt ns ms)))) s):=by
 intro prog w A R s h;obtain⟨hp,g,d,tk,os⟩:=s;obtain⟨hl,hb,h⟩:=h;have f3:=AutoSeq1.sub_list_list
 wp_walk using wpAny_loadPart' hl,wpAny_loadPart' hb
 exact⟨plainId_quiet plain_eq_loop _,codeAny_builtin entry_eq_loop (by rw[Around.under_plainId plain_eq_loop _];exact NB l b items items2 n n2 ns ms hi hj _ 0 rfl (zero_le _) (zero_le _) prog w A R _ ⟨hl,hb,h⟩)⟩
theorem ND{prog:Program}{w:World}{A:Around}{s:Shared}{l b:Addr}{items items2:Array Value}{n n2:Nat}{ns ms:List Int}(hl:s.heap.get? l=some { cls:=.type "list",data:=.seq items n })(hb:s.heap.get? b=some { cls:=.type "list",data:=.seq items2 n2 })
  (hi:IntsAre items.toList ns) (hj:IntsAre items2.toList ms) (hu:A.units<cLine) (E Q:cJ) (h:Q (.bool (HT.lexLt ns ms)) s):wpAny (model prog w) A (richCompare .Lt (.ref l) (.ref b)) Q E s:=
 richCompare_meets_room (op:=.Lt) ⟨_,hl,rfl⟩ ⟨_,hb,rfl⟩ PySem.F.slot_list_lt PySem.F.entry_list_lt (PySem.F.args_list_lt_2 _ _) (NC l b items items2 n n2 ns ms hi hj) ⟨hl,hb,show Value.bool (HT.lexLt ns ms)≠Value.notImplemented/\Q (.bool (HT.lexLt ns ms)) s from⟨(λx=>nomatch x),h⟩⟩ hu
abbrev xg:=Int×Int×List Int
noncomputable def j7(x y:xg):Bool:=if x.1=y.1 then(if x.2.1=y.2.1 then(if x.2.2=y.2.2 then false else HT.lexLt x.2.2 y.2.2) else decide (x.2.1<y.2.1)) else decide (x.1<y.1)
theorem NF(l b:Addr)(items items2:Array Value)(n n2:Nat)(dd dd2:Option Addr)(sl sl2:Array (Option Value))(hsz:items.size=items2.size)(e r:Nat->Bool)(hr:∀j,j<items.size->e j=true->r j=r (j+1))(hend:r items.size=false):
  Meets (Builtin.«tuple.__lt__» ⟨[.ref l,.ref b],[]⟩) (λA R s=>s.heap.get? l=some { cls:=.type "tuple",dict:=dd,data:=.seq items n,slots:=sl }/\s.heap.get? b=some { cls:=.type "tuple",dict:=dd2,data:=.seq items2 n2,slots:=sl2 }/\(∀j (h1:j<items.size) (h2:j<items2.size),EqAt A.in1 s items[j] items2[j] (e j))/\
    (∀j (h1:j<items.size) (h2:j<items2.size),e j=false->∀(prog:Program) (w:World) (E Q:cJ),Q (.bool (r j)) s->wpAny (model prog w) A.in1 (richCompare .Lt items[j] items2[j]) Q E s)/\R (.ok (.ret (.bool (r 0)))) s):=
 .of_wp λprog w A R s h=>by
  obtain⟨hp,g,d,tk,os⟩:=s;obtain⟨hl,hb,he,hlt',h⟩:=h;have f2:=AutoSeq1.sub_tuple_tuple;have hZ:(items.toList.zip items2.toList).length=items.size:=by simp[hsz]
  wp_walk using wpAny_loadPart' hl,wpAny_loadPart' hb,wpAny_forIn_list _ (λrest b s'=>b.1=none/\s'=⟨hp,g,d,tk,os⟩/\∃i,i<=items.size/\rest=(items.toList.zip items2.toList).drop i/\R (.ok (.ret (.bool (r i)))) ⟨hp,g,d,tk,os⟩) _
  case turn=>
   rintro⟨y,x⟩ rest b s' ⟨hb',rfl,i,hi,hz,hR⟩
   have hlt:i<(items.toList.zip items2.toList).length:=by
    rcases Nat.lt_or_ge i (items.toList.zip items2.toList).length with h'|h'<;>first|exact h'|(rw[List.drop_of_length_le h'] at hz;cases hz)
   have h1:i<items.size:=by omega
   have h2:i<items2.size:=by omega
   rw[drop_eq_getElem_cons hlt] at hz;injection hz with hyx hrest
   obtain rfl:y=items[i]:=by have:=congrArg Prod.fst hyx;simpa using this
   obtain rfl:x=items2[i]:=by have:=congrArg Prod.snd hyx;simpa using this
   refine wpAny_bind (he i h1 h2 prog w _ _ ?_);cases hy:e i with
   |true=>
    rw[hr i h1 hy] at hR
    wp_walk
    exact⟨rfl,rfl,i+1,h1,hrest,hR⟩
   |false=>
    have Ka:=hlt' i h1 h2 hy prog w
    wp_walk using Ka
    exact⟨_,rfl,by simpa using hR⟩
  case fin=>
   rintro⟨b1,b2⟩ s' ⟨hb',rfl,i,hi,hz,hR⟩;simp only at hb';subst hb'
   have hge:items.size<=i:=by
    have:=congrArg List.length hz;rw[length_drop,hZ] at this;simp at this;omega
   obtain rfl:i=items.size:=by omega
   rw[hend] at hR
   wp_walk
   exact⟨_,rfl,by simpa [Builtin.Tuple.tupleCompareSizes,hsz] using hR⟩
  case h=>exact⟨rfl,rfl,0,zero_le _,rfl,h⟩
section
variable {prog:Program}{w:World}{A:Around}{R:Result->Shared->Prop}{I:Addr}{fp wr:List Addr}{n:Nat}{P:Nat->Value->Prop}{St:Nat->Heap->Prop}
def Kc(prog:Program)(w:World)(A:Around)(J:Heap->Prop)(P:Nat->Value->Prop)(bt:Nat->Nat->Bool):Prop:=
 ∀i j vi vj (s:Shared) (Q E:cJ),J s.heap->P i vi->P j vj->Q (.bool (bt i j)) s->wpAny (model prog w) A (richCompare .Lt vi vj) Q E s
theorem NI(W:Walks prog w A.in1 I fp wr n P St)(bt:Nat->Nat->Bool)(J:Heap->Prop)(hcmp:Kc prog w A.in1 J P bt)(S:Addr)(hSf:S∉fp)(hJ:∀h h':Heap,J h->(∀b o,b∉wr->b≠S->h.get? b=some o->h'.get? b=some o)->J h'):∀(k j:Nat) (s:Shared) (vb:Value) (c:Nat),n - (j+1)=k->j+1<=n->J s.heap->St (j+1) s.heap->P (argBest bt j) vb->
  s.heap.get? S=some { cls:=.type "list",dict:=none,data:=.seq #[vb,vb] c,slots := #[] }->(∀v h' tk,P (argBest bt (n - 1)) v->(∀b o,b∉wr->b≠S->s.heap.get? b=some o->h'.get? b=some o)->R (.ok (.ret v)) { s with heap:=h',toks:=tk })->codeAny (model prog w) A (.builtin "min.loop" ⟨[.ref I,.none,.ref S],[]⟩) R s:=by
 have hSw:S∉wr:=λh=>hSf (W.sub _ h);have hname:(toString "min"++toString ".loop":String)="min.loop":=by decide
 intro k
 induction k with
 |zero=>
  intro j s vb c hk hj hh hst hPb hS hR;have hin:j+1=n:=by omega
  refine codeAny_builtin F.entry_min_loop ?_;rw[Around.under_plainId F.plain_min_loop _];show wpAny _ A.in1 (seqItems? (.ref S) >>= _) _ _ s;refine wpAny_bind (wpAny_seqItems hS rfl ?_);show wpAny _ A.in1 (tryCatch (pyNext (.ref I)) _ >>= _) _ _ s;refine wpAny_bind (wpAny_tryCatch (W.done s _ _ (hin▸hst) λh' tk hk'=>?_));have hS':=hk' S _ hSw hS;show wpAny _ A.in1 (updateSeq S (λ_ => #[]) >>= _) _ _ _;refine wpAny_bind ?_;refine wpAny_updateSeq hS' rfl (wpAny_bind (wpAny_letGo (wpAny_pure ?_)));exact hR vb _ tk (by rw[<-hin];exact hPb) λb o hbw hbS e=>(Heap.get?_update_other _ _ (Ne.symm hbS)).trans (hk' b o hbw e)
 |succ k ih=>
  intro j s vb c hk hj hh hst hPb hS hR;have hlt:j+1<n:=by omega
  refine codeAny_builtin F.entry_min_loop ?_;rw[Around.under_plainId F.plain_min_loop _];show wpAny _ A.in1 (seqItems? (.ref S) >>= _) _ _ s;refine wpAny_bind (wpAny_seqItems hS rfl ?_);show wpAny _ A.in1 (tryCatch (pyNext (.ref I)) _ >>= _) _ _ s;refine wpAny_bind (wpAny_tryCatch (W.item (j+1) s _ _ hlt hst λv h' tk hP hst' hk'=>?_));have hS':=hk' S _ hSw hS;have hh1:J h':=hJ _ _ hh λb o hbw _ e=>hk' b o hbw e
  show wpAny _ A.in1 (tryCatch (holding [v,v] (richCompare .Lt v vb >>= _)) _ >>= _) _ _ _;refine wpAny_bind (wpAny_tryCatch (wpAny_holding (wpAny_bind (hcmp (j+1) (argBest bt j) v vb _ _ _ hh1 hP hPb ?_))));refine wpAny_bind (wpAny_holding (wpAny_truthy_bool ?_));refine wpAny_bind (wpAny_letGo (wpAny_pure ?_));cases hb:bt (j+1) (argBest bt j) with
  |true=>
   simp only[if_true];refine wpAny_bind ?_;refine wpAny_updateSeq hS' rfl (wpAny_bind (wpAny_letGo ?_));rw[hname];refine wpAny_pure ⟨plainId_quiet F.plain_min_loop _,ih (j+1) _ v _ (by omega) hlt (hJ _ _ hh1 λb o _ hbS e=>(Heap.get?_update_other _ _ (Ne.symm hbS)).trans e) (W.frame _ _ _ hst' λb hbf o e=>?_) (by simp only[argBest,hb,if_true];exact hP) (Heap.get?_update_self _ hS' rfl) λv' h'' tk'' hP' hk''=>?_⟩
   ·exact(Heap.get?_update_other _ _ (show S≠b from λz=>hSf (z▸hbf))).trans e
   ·exact hR v' h'' tk'' hP' (λb o hbw hbS e=>hk'' b o hbw hbS ((Heap.get?_update_other _ _ (Ne.symm hbS)).trans (hk' b o hbw e)))
  |false=>
   simp only[false_eq_true,if_false];refine wpAny_bind (wpAny_letGo ?_);rw[hname];refine wpAny_pure ⟨plainId_quiet F.plain_min_loop _,ih (j+1) _ vb c (by omega) hlt hh1 hst' (by simp only[argBest,hb,false_eq_true,if_false];exact hPb) hS' λv' h'' tk'' hP' hk''=>hR v' h'' tk'' hP' λb o hbw hbS e=>hk'' b o hbw hbS (hk' b o hbw e)⟩
theorem NM(W:Walks prog w A.in1 I fp wr n P St)(bt:Nat->Nat->Bool)(J:Heap->Prop)(hcmp:Kc prog w A.in1 J P bt)(S:Addr)(hSf:S∉fp)(hJ:∀h h':Heap,J h->(∀b o,b∉wr->b≠S->h.get? b=some o->h'.get? b=some o)->J h')(hn:0<n){s:Shared}{c:Nat}(hh:J s.heap)(hst:St 0 s.heap)(hS:s.heap.get? S=some { cls:=.type "list",dict:=none,data:=.seq #[] c,slots := #[] })
  (hR:∀v h' tk,P (argBest bt (n - 1)) v->(∀b o,b∉wr->b≠S->s.heap.get? b=some o->h'.get? b=some o)->R (.ok (.ret v)) { s with heap:=h',toks:=tk }):codeAny (model prog w) A (.builtin "min.loop" ⟨[.ref I,.none,.ref S],[]⟩) R s:=by
 have hSw:S∉wr:=λh=>hSf (W.sub _ h);have hname:(toString "min"++toString ".loop":String)="min.loop":=by decide
 refine codeAny_builtin F.entry_min_loop ?_;rw[Around.under_plainId F.plain_min_loop _];show wpAny _ A.in1 (seqItems? (.ref S) >>= _) _ _ s;refine wpAny_bind (wpAny_seqItems hS rfl ?_);show wpAny _ A.in1 (tryCatch (pyNext (.ref I)) _ >>= _) _ _ s;refine wpAny_bind (wpAny_tryCatch (W.item 0 s _ _ hn hst λv h' tk hP hst' hk'=>?_));have hS':=hk' S _ hSw hS;have hh1:J h':=hJ _ _ hh λb o hbw _ e=>hk' b o hbw e
 show wpAny _ A.in1 (updateSeq S (λ_ => #[v,v]) >>= _) _ _ _;refine wpAny_bind ?_;refine wpAny_updateSeq hS' rfl ?_;rw[hname];refine wpAny_pure ⟨plainId_quiet F.plain_min_loop _,NI W bt J hcmp S hSf hJ _ 0 _ v _ rfl hn (hJ _ _ hh1 λb o _ hbS e=>(Heap.get?_update_other _ _ (Ne.symm hbS)).trans e) (W.frame _ _ _ hst' λb hbf o e=>?_) hP (Heap.get?_update_self _ hS' rfl) λv' h'' tk'' hP' hk''=>?_⟩
 ·exact(Heap.get?_update_other _ _ (show S≠b from λz=>hSf (z▸hbf))).trans e
 ·exact hR v' h'' tk'' hP' (λb o hbw hbS e=>hk'' b o hbw hbS ((Heap.get?_update_other _ _ (Ne.symm hbS)).trans (hk' b o hbw e)))
end
section
variable {prog:Program}{w:World}{A:Around}{E:cJ}{s:Shared}
def Kd(h0 h:Heap):Prop:=∀b o,h0.get? b=some o->h.get? b=some o
theorem NN{l:Addr}{items:Array Value}{Q:cJ}(hh:A.handled=none)(hl:s.heap.IsList l items)(hn:0<items.size)(bt:Nat->Nat->Bool)(hcmp:Kc prog w A.in1 (Kd s.heap) (λi v=>items[i]? = some v) bt)
  (hQ:∀v h' tk,items[argBest bt (items.size - 1)]? = some v->Kd s.heap h'->Q v { s with heap:=h',toks:=tk }):wpAny (model prog w) A (call (.builtin "min") [.ref l]) Q E s:=by
 have hname:(toString "min"++toString ".loop":String)="min.loop":=by decide
 have hlt:l<s.heap.objs.size:=by obtain⟨o,e,_⟩:=id hl;exact Heap.lt_size e
 refine call_function_tree F.kind_min F.plain_min F.entry_min (F.args_min1 _) ?_;show wpAny _ A.in1 (Builtin.Builtins.bindParams "min" ["key","default"] 0 ⟨[],[]⟩ >>= _) _ _ s
 refine wpAny_bind (wpAny_of_eq (show Builtin.Builtins.bindParams "min" ["key","default"] 0 ⟨[],[]⟩=pure [none,none] from rfl) (wpAny_bind (wpAny_pure (wpAny_bind (wpAny_pyIter_list hl ?_)))))
 refine wpAny_bind (wpAny_newObj_type ?_);have Ke:∀b o,s.heap.get? b=some o->(s.heap.push { cls:=.type "list_iterator",data:=.fields #[.ref l,.int 0 0] }).get? b=some o:=λb o e=>Heap.get?_push_of_some _ e
 have hW:=Walks.list (prog:=prog) (w:=w) (A:=A.in1) (by exact hh) s.heap.objs.size l (ne_of_lt hlt) items;have hsz:(s.heap.push { cls:=.type "list_iterator",data:=.fields #[.ref l,.int 0 0] }).objs.size=s.heap.objs.size+1:=by simp[Heap.push]
 rw[hname];refine wpAny_pure ⟨plainId_quiet F.plain_min_loop _,NM hW bt (Kd s.heap) hcmp _ (by rw[hsz];intro z;rcases List.mem_cons.mp z with z|z;exact absurd z (Nat.succ_ne_self _);exact absurd (List.mem_singleton.mp z) (Nat.ne_of_gt (lt_succ_of_lt hlt))) (λh h' o k b ob e=>k b ob (λz=>absurd (List.mem_singleton.mp z) (ne_of_lt (Heap.lt_size e))) (by rw[hsz];exact ne_of_lt (lt_succ_of_lt (Heap.lt_size e))) (o b ob e)) hn (λb o e=>Heap.get?_push_of_some _ (Ke b o e)) ⟨?_,?_⟩ (Heap.get?_push_size _ rfl) λv h' tk hP hk=>?_⟩
 ·exact⟨_,Heap.get?_push_of_some _ (Heap.get?_push_size _ rfl),rfl,rfl⟩
 ·obtain⟨o,e,q⟩:=id hl;exact⟨o,Heap.get?_push_of_some _ (Ke _ _ e),q⟩
 ·exact hQ v h' tk hP λb o e=>hk b o (λz=>absurd (List.mem_singleton.mp z) (ne_of_lt (Heap.lt_size e))) (by rw[hsz];exact ne_of_lt (lt_succ_of_lt (Heap.lt_size e))) (Heap.get?_push_of_some _ (Ke b o e))
end
end L2
namespace Pq
open PySem L2
variable {p q:Plan}{ps qs:List Plan}{a b:Nd}{l f D g dB aW la na ga C fL fN fS fR fP fO CN fM fW fE fA fG fJ fF dT CB:PySem.Addr}{m n i k τ c y d:Nat}{H H' H1 H2:L2.Hp}{P:PySem.Program}{w:PySem.World}{K:Frag}{mg:PySem.Str->Option PySem.Value}{base:PySem.Heap}{fd gd cD lD nD sD rD pD tD mD wD eD aD uD gD bD hD iD dP dO dE dJ dG md:PySem.FuncData}{xs ys:List L2.V}{as:List PySem.Addr}{x:cV}{t:Tr}{r:Sq}{L:List (Option Nat)}{T T':List Raw}{E:Es}{s:List Int}{ks:List Nat}{Ks bH:List Ent}{need ms U:List cV}
theorem D6:∀(a b:List Nat),zk2 (a++10::b)=zk2 a++zk2 b
 |[],b=>by show zk2 (10::b)=_;rw[nj,if_pos rfl];rfl
 |c::a,b=>by
  have ih:=D6 a b;show zk2 (c::(a++10::b))=_;rw[nj,nj,ih]
  by_cases h:c=10
  ·rw[if_pos h,if_pos h];rfl
  ·rw[if_neg h,if_neg h]
   cases e:zk2 a with
   |nil=>exact absurd e (Bh a)
   |cons r rs=>rfl
theorem Yc:∀(n:Nat) (t:List Nat),t.length=n->∃us u,zk2 t=us++[u]/\u.length=col t
 |0,t,h=>by
  have:t=[]:=List.eq_nil_of_length_eq_zero h;subst this
  exact⟨[],[],rfl,rfl⟩
 |n+1,t,h=>by
  have hne:t≠[]:=λz=>by rw[z] at h;cases h
  have e:=(List.dropLast_concat_getLast hne);obtain⟨us,u,h1,h2⟩:=Yc n t.dropLast (by rw[List.length_dropLast];omega)
  generalize t.getLast hne=c at e
  generalize t.dropLast=s at e h1 h2
  subst e
  by_cases hc:c=10
  ·subst hc
   refine⟨us++[u],[],?_,?_⟩
   ·have:s++[10]=s++10::[]:=rfl
    rw[this,D6,h1];rfl
   ·have:=vV s 0;simp at this;simp[this]
  ·obtain⟨us',u',q1,q2⟩:=G0 s [c] (by simpa using λz=>hc z.symm)
   rw[h1] at q1
   have e1:=List.append_inj' q1 rfl;obtain⟨rfl,e2⟩:=e1;have e2:u=u':=by simpa using e2
   subst e2;refine⟨us,u++[c],q2,?_⟩;rw[length_append,h2,pZ s [c] (by simpa using hc)]
def iw(w:Nat)(t:List Nat):Nat:=((zk2 t).map λr=>r.length - w).sum
def gq(t:List Nat):Nat:=(zk2 t).length - 1
def jU(w:Nat)(t:List Nat):Nat:=SB*iw w t+gq t
theorem Yd(t:List Nat):1<=(zk2 t).length:=by
 cases e:zk2 t with
 |nil=>exact absurd e (Bh t)
 |cons _ _=>simp
theorem Kf(w:Nat)(t x:List Nat)(h:∀c∈x,c≠10):jU w (t++x)=jU w t+SB*ov w (col t) x.length:=by
 obtain⟨us,u,h1,h2⟩:=Yc _ t rfl;obtain⟨us',u',q1,q2⟩:=G0 t x (λz=>h 10 z rfl);rw[h1] at q1
 obtain⟨rfl,e2⟩:=List.append_inj' q1 rfl;have e2:u=u':=by simpa using e2
 subst e2;have e3:iw w (t++x)=iw w t+ov w (col t) x.length:=by
  unfold iw;rw[q2,h1,map_append,map_append,sum_append,sum_append,<-h2];simp only[map_cons,map_nil,sum_cons,sum_nil,length_append];unfold ov;omega
 have e4:gq (t++x)=gq t:=by
  unfold gq;rw[q2,h1,length_append,length_append];rfl
 unfold jU;rw[e3,e4,mul_add];omega
theorem Ye(w:Nat)(t:List Nat)(m:Nat):jU w (t++10::List.replicate m 32)=jU w t+(1+SB*ov w 0 m):=by
 have e0:zk2 (List.replicate m 32)=[List.replicate m 32]:=Bj _ λz=>by have:=List.eq_of_mem_replicate z;omega
 have e3:iw w (t++10::List.replicate m 32)=iw w t+ov w 0 m:=by
  unfold iw;rw[D6,e0,map_append,sum_append];simp only[map_cons,map_nil,sum_cons,sum_nil,List.length_replicate];unfold ov;omega
 have e4:gq (t++10::List.replicate m 32)=gq t+1:=by
  have:=Yd t;unfold gq;rw[D6,e0,length_append,length_singleton];omega
 unfold jU;rw[e3,e4,mul_add];omega
theorem xq(w:Nat):∀(a:Nd) {l:Nat} (c m m':Nat),zk4 a=some l->d9 w a c m=d9 w a c m'
 |.text _,_,_,_,_,_=>rfl
 |.brk,_,_,_,_,h=>by cases h
 |.nest _ _,_,_,_,_,h=>by cases h
 |.align _,_,_,_,_,h=>by cases h
 |.beside a b,l,c,m,m',h=>by
  have h:fV (· + ·) (zk4 a) (zk4 b)=some l:=h;cases ha:zk4 a with
  |none=>rw[ha] at h;cases h
  |some la=>
   cases hb:zk4 b with
   |none=>rw[ha,hb] at h;cases h
   |some lb=>
    show zk9 _ _=zk9 _ _;rw[xq w a c m m' ha]
    congr 1
    funext e
    exact xq w b e m m' hb
 |.choice a b,l,c,m,m',h=>by
  have h:fV min (zk4 a) (zk4 b)=some l:=h;cases ha:zk4 a with
  |none=>rw[ha] at h;cases h
  |some la=>
   cases hb:zk4 b with
   |none=>rw[ha,hb] at h;cases h
   |some lb=>
    show _++_=_++_;rw[xq w a c m m' ha,xq w b c m m' hb]
def NR(w:Nat)(p:Plan)(t:List Nat)(m:Nat)(f:Bool)(o:Run)(s:List Int):Prop:=o.1=s/\∃t',lay p s t m f=some (t',[])/\o.2.1=col t'/\jU w t'=jU w t+o.2.2
theorem Af{α β γ δ:Type}{R:α->β->Prop}{S:γ->δ->Prop}{g:α->γ}{h:β->δ}(hg:∀a b,R a b->S (g a) (h b)):∀ {as:List α} {bs:List β},Paired R as bs->Paired S (as.map g) (bs.map h)
 |_,_,.nil=>.nil
 |_,_,.cons r t=>.cons (hg _ _ r) (Af hg t)
theorem Yg{α β γ δ:Type}{R:α->β->Prop}{S:γ->δ->Prop}{g:α->List γ}{h:β->List δ}(hg:∀a b,R a b->Paired S (g a) (h b)):∀ {as:List α} {bs:List β},Paired R as bs->Paired S (as.flatMap g) (bs.flatMap h)
 |_,_,.nil=>.nil
 |_,_,.cons r t=>by rw[flatMap_cons,flatMap_cons];exact iU (hg _ _ r) (Yg hg t)
theorem tO(w:Nat):∀(p:Plan) (t:List Nat) (m:Nat) (f:Bool),p.Flat->Paired (NR w p t m f) (d9 w (aQ p f) (col t) m) p.sides
 |.text x,t,m,f,h=>.cons ⟨rfl,t++x,rfl,(pZ t x h).symm,Kf w t x h⟩ .nil
 |.line,t,m,false,_=>.cons ⟨rfl,_,rfl,(vV t m).symm,Ye w t m⟩ .nil
 |.line,t,m,true,_=>.cons ⟨rfl,t++[32],rfl,(pZ t [32] (by simp)).symm,Kf w t [32] (by simp)⟩ .nil
 |.cut,t,m,false,_=>.cons ⟨rfl,_,rfl,(vV t m).symm,Ye w t m⟩ .nil
 |.cut,t,m,true,_=>.cons ⟨rfl,t++[],rfl,(pZ t [] (by simp)).symm,Kf w t [] (by simp)⟩ .nil
 |.nest n p,t,m,f,h=>by
  have ih:=tO w p t (m+n) f h;have e:d9 w (aQ (.nest n p) f) (col t) m=d9 w (aQ p f) (col t) (m+n):=by
   have e0:aQ (.nest n p) f=if(zk4 (aQ p f)).isSome then aQ p f else .nest n (aQ p f):=rfl
   rw[e0];cases hl:zk4 (aQ p f) with
   |some l=>rw[if_pos (by rfl:(some l).isSome=true)];exact xq w _ _ _ _ hl
   |none=>rw[if_neg (by decide:¬((none:Option Nat).isSome=true))];rfl
  rw[e];exact ih
 |.align p,t,m,f,h=>by
  have ih:=tO w p t (col t) f h;have e:d9 w (aQ (.align p) f) (col t) m=d9 w (aQ p f) (col t) (col t):=by
   have e0:aQ (.align p) f=if(zk4 (aQ p f)).isSome then aQ p f else .align (aQ p f):=rfl
   rw[e0];cases hl:zk4 (aQ p f) with
   |some l=>rw[if_pos (by rfl:(some l).isSome=true)];exact xq w _ _ _ _ hl
   |none=>rw[if_neg (by decide:¬((none:Option Nat).isSome=true))];rfl
  rw[e];exact ih
 |.flat p,t,m,f,h=>tO w p t m true h
 |.beside p q,t,m,f,h=>by
  refine Yg (λo s ⟨e1,t1,e2,e3,e4⟩=>?_) (tO w p t m f h.1);rw[e3];refine Af (λo2 s2 ⟨q1,t2,q2,q3,q4⟩=>?_) (tO w q t1 m f h.2);refine⟨by rw[e1,q1],t2,?_,q3,by show jU w t2=jU w t+(o.2.2+o2.2.2);omega⟩;show(lay p (s++s2) t m f).bind (λr=>lay q r.2 r.1 m f)=_;have:=rN p _ _ s2 _ _ _ _ e2;rw[this];exact q2
 |.choice p q,t,m,f,h=>by
  refine iU (Af (λo s ⟨e1,t1,e2,e3,e4⟩=>?_) (tO w p t m f h.1)) (Af (λo s ⟨e1,t1,e2,e3,e4⟩=>?_) (tO w q t m f h.2))
  ·exact⟨by rw[<-e1],t1,by show(if(0:Int)=0 then lay p s t m f else _)=_;rw[if_pos rfl];exact e2,e3,e4⟩
  ·exact⟨by rw[<-e1],t1,by show(if(1:Int)=0 then _ else if(1:Int)=1 then lay q s t m f else none)=_;rw[if_neg (by decide),if_pos rfl];exact e2,e3,e4⟩
theorem Yh(w:Nat):jU w []=0:=by
 unfold jU iw gq;show SB*(0 - w+0)+0=0;rw[Nat.zero_sub];rfl
def jq(a b:List Int):Prop:=∃pre x y a' b',a=pre++x::a'/\b=pre++y::b'/\x<y
theorem jq.cons{a b:List Int}(c:Int)(h:jq a b):jq (c::a) (c::b):=by
 obtain⟨pre,x,y,a',b',rfl,rfl,hxy⟩:=h;exact⟨c::pre,x,y,a',b',rfl,rfl,hxy⟩
theorem jq.pre{a b:List Int}(c:List Int)(h:jq a b):jq (c++a) (c++b):=by
 obtain⟨pre,x,y,a',b',rfl,rfl,hxy⟩:=h;exact⟨c++pre,x,y,a',b',by rw[append_assoc],by rw[append_assoc],hxy⟩
theorem jq.post{a b:List Int}(c d:List Int)(h:jq a b):jq (a++c) (b++d):=by
 obtain⟨pre,x,y,a',b',rfl,rfl,hxy⟩:=h;exact⟨pre,x,y,a'++c,b'++d,by rw[append_assoc];rfl,by rw[append_assoc];rfl,hxy⟩
theorem jq.lex{a b:List Int}(h:jq a b):HT.lexLt a b=true/\HT.lexLt b a=false/\a≠b:=by
 obtain⟨pre,x,y,a',b',rfl,rfl,hxy⟩:=h;refine⟨?_,?_,λz=>?_⟩
 ·induction pre with
  |nil=>show HT.lexLt (x::a') (y::b')=true;rw[HT.yp,if_neg (by omega),decide_eq_true hxy]
  |cons c pre ih=>show HT.lexLt (c::_) (c::_)=true;rw[HT.yp,if_pos rfl];exact ih
 ·induction pre with
  |nil=>show HT.lexLt (y::b') (x::a')=false;rw[HT.yp,if_neg (by omega),decide_eq_false (by omega)]
  |cons c pre ih=>show HT.lexLt (c::_) (c::_)=false;rw[HT.yp,if_pos rfl];exact ih
 ·have:=List.append_cancel_left z
  simp at this
  omega
theorem tQ:∀p:Plan,p.sides.Pairwise jq
 |.text _=>by simp[Plan.sides]
 |.line=>by simp[Plan.sides]
 |.cut=>by simp[Plan.sides]
 |.nest _ p=>tQ p
 |.align p=>tQ p
 |.flat p=>tQ p
 |.choice p q=>by
  show(p.sides.map (λr=>0::r)++q.sides.map λr=>1::r).Pairwise jq;rw[List.pairwise_append,pairwise_map,pairwise_map];refine⟨(tQ p).imp λh=>h.cons 0,(tQ q).imp λh=>h.cons 1,λa ha b hb=>?_⟩;obtain⟨x,_,rfl⟩:=List.mem_map.mp ha;obtain⟨y,_,rfl⟩:=List.mem_map.mp hb;exact⟨[],0,1,x,y,rfl,rfl,by decide⟩
 |.beside p q=>by
  show(p.sides.flatMap λr=>q.sides.map λm=>r++m).Pairwise jq;have hq:=tQ q;have key:∀L:List (List Int),L.Pairwise jq->(L.flatMap λr=>q.sides.map λm=>r++m).Pairwise jq:=λL hL=>by
   induction L with
   |nil=>simp
   |cons r L ih=>
    rw[List.pairwise_cons] at hL
    rw[flatMap_cons,List.pairwise_append,pairwise_map];refine⟨hq.imp λh=>h.pre r,ih hL.2,λa ha b hb=>?_⟩;obtain⟨m,_,rfl⟩:=List.mem_map.mp ha;obtain⟨r2,hr2,hb⟩:=List.mem_flatMap.mp hb;obtain⟨m2,_,rfl⟩:=List.mem_map.mp hb;exact(hL.1 r2 hr2).post m m2
  exact key _ (tQ p)
theorem Yi{b1 l1 b2 l2:Nat}{s1 s2:List Int}(h1:l1<SB)(h2:l2<SB):(SB*b1+l1<SB*b2+l2->j7 ((b1:Int),(l1:Int),s1) ((b2:Int),(l2:Int),s2)=true)/\(SB*b2+l2<SB*b1+l1->j7 ((b1:Int),(l1:Int),s1) ((b2:Int),(l2:Int),s2)=false)/\
  (SB*b1+l1=SB*b2+l2->b1=b2/\l1=l2):=by
 simp only[SB] at*
 refine⟨λh=>?_,λh=>?_,λh=>by omega⟩
 ·unfold j7
  by_cases c:b1=b2
  ·subst c
   rw[if_pos rfl,if_neg (by show ¬(l1:Int)=(l2:Int);omega)];exact decide_eq_true (by show(l1:Int)<(l2:Int);omega)
  ·rw[if_neg (by show ¬(b1:Int)=(b2:Int);omega)]
   exact decide_eq_true (by show(b1:Int)<(b2:Int);omega)
 ·unfold j7
  by_cases c:b1=b2
  ·subst c
   rw[if_pos rfl,if_neg (by show ¬(l1:Int)=(l2:Int);omega)];exact decide_eq_false (by show ¬(l1:Int)<(l2:Int);omega)
  ·rw[if_neg (by show ¬(b1:Int)=(b2:Int);omega)]
   exact decide_eq_false (by show ¬(b1:Int)<(b2:Int);omega)
theorem Yj(bt:Nat->Nat->Bool)(i:Nat):∀k,i<=k->(∀j,j<=k->j≠i->bt i j=true/\bt j i=false)->argBest bt k=i
 |0,h,_=>by show 0=i;omega
 |k+1,h,hb=>by
  show(if bt (k+1) (argBest bt k) then k+1 else argBest bt k)=i
  by_cases c:i=k+1
  ·have hle:∀k,argBest bt k<=k:=λk=>by
    induction k with
    |zero=>exact le_refl _
    |succ k ih=>show(if bt (k+1) (argBest bt k) then k+1 else argBest bt k)<=k+1;split<;>omega
   have h1:=hle k;have:=(hb (argBest bt k) (by omega) (by omega)).1;rw[<-c,this,if_pos rfl]
  ·have ih:=Yj bt i k (by omega) λj hj hne=>hb j (by omega) hne
   rw[ih,(hb (k+1) (le_refl _) (λz=>c z.symm)).2];rfl
def dg(p:Plan)(s:List Int):List Nat:=match lay p s [] 0 false with
 |some x=>x.1
 |none=>[]
noncomputable def nM(w:Nat)(p:Plan)(s:List Int):xg:=(((iw w (dg p s):Nat):Int),((gq (dg p s):Nat):Int),s)
theorem xr  {t:List Nat}(h:lay p s [] 0 false=some (t,[])):dg p s=t:=by unfold dg;rw[h]
theorem Kg{α β:Type}{R:α->β->Prop}:∀ {as:List α} {bs:List β} {i:Nat} {b:β},Paired R as bs->bs[i]? = some b->∃a,as[i]? = some a/\R a b
 |_,_,_,_,.nil,e=>by simp at e
 |_,_,0,_,.cons r _,e=>by simp at e;subst e;exact⟨_,rfl,r⟩
 |_,_,i+1,b,.cons _ t,e=>by
  obtain⟨a,h1,h2⟩:=Kg (i:=i) (b:=b) t (by simpa using e);exact⟨a,by simpa using h1,h2⟩
theorem Yk{α β:Type}{R:α->β->Prop}:∀ {as:List α} {bs:List β} {i:Nat} {a:α},Paired R as bs->as[i]? = some a->∃b,bs[i]? = some b/\R a b
 |_,_,_,_,.nil,e=>by simp at e
 |_,_,0,_,.cons r _,e=>by simp at e;subst e;exact⟨_,rfl,r⟩
 |_,_,i+1,b,.cons _ t,e=>by
  obtain⟨a,h1,h2⟩:=Yk (i:=i) (a:=b) t (by simpa using e);exact⟨a,by simpa using h1,h2⟩
theorem Yl{w:Nat} {ss:List Int} (hf:p.Flat)(hl:∀s∈p.sides,gq (dg p s)<SB)(hb:Best (cY w [(aQ p false,0)] 0) ss k):
  ∃t i,lay p ss [] 0 false=some (t,[])/\k / SB=iw w t/\k % SB=gq t/\ss∈p.sides/\p.sides[i]? = some ss/\argBest (λi j=>j7 ((p.sides.map (nM w p)).getD i (0,0,[])) ((p.sides.map (nM w p)).getD j (0,0,[]))) (p.sides.length - 1)=i:=by
 obtain⟨pre,e,post,hR,h1,h2⟩:=hb;rw[jQ] at hR
 have P0:=tO w p [] 0 false hf;have ec:col []=0:=rfl;rw[ec,hR] at P0
 have hlen:=Paired.length P0;have NS:(pre++(ss,e,k)::post)[pre.length]? = some (ss,e,k):=by simp
 obtain⟨s0,hs0,hr0,t,ht,hct,htot⟩:=Yk P0 NS;have NV:ss=s0:=hr0;subst NV;rw[Yh,zero_add] at htot
 have htot:jU w t=k:=htot;have hmem:=mem_of_getElem? hs0;have hlt:gq t<SB:=by have:=hl ss hmem;rwa [xr ht] at this
 have hi:pre.length<p.sides.length:=(List.getElem?_eq_some_iff.mp hs0).1;have NW:0<SB:=by decide
 refine⟨t,pre.length,ht,?_,?_,hmem,hs0,Yj _ pre.length _ (by omega) λj hj hne=>?_⟩
 ·rw[<-htot];unfold jU
  rw[Nat.mul_add_div NW,Nat.div_eq_of_lt hlt,Nat.add_zero]
 ·rw[<-htot];unfold jU
  rw[Nat.mul_add_mod,Nat.mod_eq_of_lt hlt]
 ·have hjl:j<p.sides.length:=by omega
  have jj:p.sides[j]? = some p.sides[j]:=getElem?_eq_getElem hjl
  generalize p.sides[j]=sj at jj
  obtain⟨o,ho,hoe,tj,htj,hcj,Ym⟩:=Kg P0 jj;rw[Yh,zero_add] at Ym
  have NX:=mem_of_getElem? jj;have Yn:gq tj<SB:=by have:=hl sj NX;rwa [xr htj] at this
  have er:∀(i:Nat) (s:List Int),p.sides[i]? = some s->(p.sides.map (nM w p)).getD i (0,0,[])=nM w p s:=λi s hs=>by
   rw[getD_eq_getElem?_getD,getElem?_map,hs];rfl
  have ei:=er _ _ hs0;have ej:=er _ _ jj;show j7 _ _=true/\j7 _ _=false;rw[ei,ej];unfold nM;rw[xr ht,xr htj];obtain⟨a1,a2,a3⟩:=Yi (b1:=iw w t) (b2:=iw w tj) (s1:=ss) (s2:=sj) hlt Yn;obtain⟨c1,c2,c3⟩:=Yi (b1:=iw w tj) (b2:=iw w t) (s1:=sj) (s2:=ss) Yn hlt;have kt:SB*iw w t+gq t=k:=htot;have kj:SB*iw w tj+gq tj=o.2.2:=Ym;rcases Nat.lt_or_ge j pre.length with hj'|hj'
  ·have hop:o∈pre:=by
    rw[getElem?_append_left hj'] at ho
    exact mem_of_getElem? ho
   have:=h1 o hop;exact⟨a1 (by omega),c2 (by omega)⟩
  ·have hop:o∈post:=by
    rw[List.getElem?_append_right hj'] at ho
    obtain⟨d,hd⟩:∃d,j - pre.length=d+1:=⟨j - pre.length - 1,by omega⟩;rw[hd] at ho
    exact mem_of_getElem? (by simpa using ho)
   have:=h2 o hop;rcases Nat.lt_or_eq_of_le this with hlt'|heq
   ·exact⟨a1 (by omega),c2 (by omega)⟩
   ·obtain⟨e1,e2⟩:=a3 (by omega)
    have hd:jq ss sj:=by
     have hord:=List.pairwise_iff_getElem.mp (tQ p) pre.length j hi hjl (by omega);have x1:=(List.getElem?_eq_some_iff.mp hs0).2;have x2:=(List.getElem?_eq_some_iff.mp jj).2;rw[x1,x2] at hord
     exact hord
    obtain⟨d1,d2,d3⟩:=hd.lex;rw[e1,e2];unfold j7;simp only[if_true];rw[if_neg d3,if_neg (λz=>d3 z.symm)];exact⟨d1,d2⟩
noncomputable def jd(J:List Plan->Plan)(k:Nat)(t:Tr):Plan×List Plan:=if gU t=some k then(bV J t).2 else(f7 J k t (bh J t),[])
noncomputable def jV(J:List Plan->Plan)(L:List (Nat×Tr)):List Plan:=L.reverse.flatMap λx=>dj J x.1 x.2
theorem Kh(J:List Plan->Plan){op:Nat}{a b:Tr}(h:fK op=k):jd J k (.bin op a b)=((jd J k a).1,(jd J k a).2++dj J op b):=by
 subst h
 conv=>lhs;unfold jd
 rw[if_pos (show gU (.bin op a b)=some (fK op) from rfl),p7];rfl
theorem Kl(J:List Plan->Plan)(L:List (Nat×Tr))(x:Nat×Tr):jV J (L++[x])=dj J x.1 x.2++jV J L:=by
 unfold jV;rw[reverse_append];rfl
theorem Yo(J:List Plan->Plan)(op:Nat)(a b:Tr):bh J (.bin op a b)=grp (J [(jd J (fK op) (.bin op a b)).1,.nest 2 (J (jd J (fK op) (.bin op a b)).2)]):=by
 rw[Kh J rfl];show(bV J (.bin op a b)).1=_;rw[p7];rfl
def xu(H:Hp)(a:Addr)(x:Nat×Tr):Prop:=∃p y,H a=some (.tup [.str (tx [x.1]),.ref p,.ref y])/\dh H x.2 y
theorem xu.mono{H H':Hp}(h:bQ H H'){a:Addr}{x:Nat×Tr}:xu H a x->xu H' a x:=λ⟨p,y,e,q⟩=>⟨p,y,h _ _ e,q.mono h⟩
structure Yp(t:Tr)(k:Nat)(H1:Hp)(D:Addr)(H':Hp)(rx:Addr)(x:Tr)(as:List Addr)(L:List (Nat×Tr)):Prop where
 ls:H' D=some (.lst (as.map V.ref))
 bt:cB D H1 H'
 tr:dh H' x rx
 ok:x.ok
 ln:Paired (xu H') as L
 ch:jd jT k t=((jd jT k x).1,(jd jT k x).2++jV jT L)
 dp:L.length+x.deep<=t.deep
 al:∀y∈L,y.2.ok/\y.2.deep<t.deep/\fK y.1=k
 st:L=[]->x=t
section
variable {t1 t2 t3:Tok}
theorem Yq:cQ ["tree","tightness","links","first","further","link"] ["tree"] (cg GX):=⟨rfl,rfl,rfl, ⋯,rfl, ⋯, ⋯⟩
theorem NY   (F:cA K "plan_of_operands" "plan_of_operands" GX f fd)(T:JZ P w mg base dT t1 t2 t3)(mR:mg "reversed"=none)
  (GO:aH P w K mg base aB n fO dO ["tree","tightness"] (K3 d)) (bO:Binds K dO ["tree","tightness"] []) (kO:keepIn K (.ref fO)=true) (mO:mg "plan_of_operand"=some (.ref fO))
  (GJ:aH P w K mg base aB 10 fJ dJ ["plans"] (uI 10)) (bJ:Binds K dJ ["plans"] []) (kJ:keepIn K (.ref fJ)=true) (mJ:mg "joined"=some (.ref fJ))
  (GG:aH P w K mg base aB 1 fG dG ["plan"] yU) (bG:Binds K dG ["plan"] []) (kG:keepIn K (.ref fG)=true) (mG:mg "group"=some (.ref fG)) (hn:10<=n):aH P w K mg base aB (n+1) f fd ["tree"] (K4 d):=by
 refine F.cU Yq (λvs H Q E h=>?_) (λcdv A outer s H vs Q E hr h=>?_)
 ·obtain⟨r,op,a,b,rfl,_⟩:=h
  rfl
 obtain⟨r,op,a,b,rfl,hT,ho,hd,gw,q⟩:=h;have nd:=Yq.nd;have vg:cZ 10 _:=hr.mono hn;have hr1:cZ 1 _:=hr.mono (by omega)
 refine⟨_,au (aO (i:=1) nd rfl (Or.inl rfl) (U0 T.dd (oO rfl T.mT (v:=.ref dT) rfl) (aF aN (a6 0) ak (λ_ _=>rfl)) (λ_ _=>rfl)))<|
  au (aO (i:=2) nd rfl (Or.inl rfl) (cX a7))<|
  au (aO (i:=3) nd rfl (Or.inl rfl) (a6 0))<|
  au (nT PassesOwn.never (cI d8 (Be T.sT T.dd (oO rfl T.mT (v:=.ref dT) rfl) (aF aN (a6 3) ak (λ_ _=>rfl)) ⟨rfl,rfl,rfl,rfl⟩) (a6 1) (cP _))
   (au (fZ (gG plainAttrs_list PySem.F.slot_list_append PySem.F.type_list_append ju (a6 2) (aq (a6 3) a7)))<|
    aL (aO (i:=3) nd rfl (Or.inl rfl) (aF aN (a6 3) ak (λ_ _=>rfl)))))<|
  au (aO (i:=4) nd rfl (Or.inl rfl) (cX a7))<|
  au (lK PassesOwn.never rfl (Bf rfl mR (aq (a6 2) a7)) (jX (i:=5) nd rfl (Or.inl rfl))
   (aL (fZ (gG plainAttrs_list slot_list_extend type_list_extend qZ (a6 4) (oR (cX (d0 (bf (aM aK a7)) (d0 (bf (aM aK (iC (bK pQ (aF aN (a6 5) ak (λ_ _=>rfl)) aK) a7))) (dw (c9 GO hr rfl mO kO bO .nil aU (cF (aF aN (a6 5) ak (λ_ _=>rfl)) (aq (a6 1) a7))) a7)))) a7)))))<|
  aL (bx (c9 GG hr1 rfl mG kG bG .nil aU (dw (c9 GJ vg rfl mJ kJ bJ .nil aU (oR (cX (dw (c9 GO hr rfl mO kO bO .nil aU (aq (a6 3) (aq (a6 1) a7))) (d0 (bf (aM aK (aM ak (dw (c9 GJ vg rfl mJ kJ bJ .nil aU (aq (a6 4) a7)) a7)))) a7))) a7)) a7))),?_⟩
 have hat:∀(t:Tr) (xs:List V),dN (V.str (hdT t)::xs) (0:Int)=some (.str (hdT t)):=λt xs=>by show dN (V.str (hdT t)::xs) ((0:Nat):Int)=_;exact gF rfl
 obtain⟨xs,hx⟩:=vf hT;obtain⟨k,tk,ek,ev⟩:∃k tk,gU (.bin op a b)=some k/\valueAt (oE t1 t2 t3) (Sum.inr (hdT (.bin op a b)):Key)=some (.int (k:Nat) tk):=by
  rcases K0 t1 t2 t3 ho with⟨z,_⟩|z
  ·cases z
  ·exact z
 have hk:fK op=k:=Option.some.inj ek;refine⟨_,rfl,r,_,_,_,rfl,rfl,a9.of hx,hat _ _,hdT (.bin op a b),.int (k:Nat),_,rfl,rfl,ev,⟨_,rfl⟩,aC,λD hD=>⟨_,rfl,?_⟩⟩;have s0:=ao hD (.lst [])
 refine⟨λm σ H'=>∃rx x as L,σ=[some (.ref r),some (.int (k:Nat)),some (.ref D),some (.ref rx),none,none]/\m=x.size/\Yp (.bin op a b) k (upd H D (.lst [])) D H' rx x as L,
  ⟨_,r,_,[],[],rfl,rfl,a8,cB.refl,hT.mono (.of s0),ho,.nil,by show _=(_,_++[]);rw[append_nil],by show 0+_<=_;omega,(λy hy=>nomatch hy),λ_=>rfl⟩,?_⟩
 rintro m σ H' ⟨rx,x,as,L,rfl,rfl,S⟩
 obtain⟨ys,hy⟩:=vf S.tr;have hlen:=Paired.length S.ln;have after:gU x≠some k->∀T0:TS,T0=T0->True:=λ_ _ _=>trivial
 rcases K0 t1 t2 t3 S.ok with⟨e1,e2⟩|⟨k',tk',e1,e2⟩
 rotate_left
 refine⟨rfl,_,rfl,rx,_,_,_,rfl,rfl,a9.of hy,hat _ _,hdT x,.int (k':Nat),rfl,by rw[e2];exact⟨_,rfl⟩,_,rfl,rfl,_,rfl, ?gb⟩
 rotate_left
 refine⟨rfl,_,rfl,rx,_,_,_,rfl,rfl,a9.of hy,hat _ _,hdT x,.non,rfl,by rw[e2];rfl,_,rfl,rfl,_,rfl,aP (λz=>nomatch (of_decide_eq_true z)) ?ga⟩
 case' ga=>have hno:¬gU x=some k:=by rw[e1];exact λz=>nomatch z
 case' gb=>refine jH (λhkk =>?gc) (λhkk =>?gd)
 case' gd=>have hno:¬gU x=some k:=by rw[e1];exact λz=>hkk (decide_eq_true (by rw[Option.some.inj z]))
 case gc=>
  have hkk:k'=k:=by have:=V.int.inj (of_decide_eq_true hkk);omega
  subst hkk;cases x with
  |bin op' a' b'=>
   obtain⟨x',y',hb',ha',hb2⟩:∃x y,H' rx=some (.tup [.str (tx [op']),.ref x,.ref y])/\dh H' a' x/\dh H' b' y:=by have:=S.tr;rw[dh] at this;exact this
   have hok':=S.ok;rw[Tr.ok] at hok'
   have hk':fK op'=k':=Option.some.inj e1;have hdp:=S.dp;have hdx:(Tr.bin op' a' b').deep=max a'.deep b'.deep+1:=rfl;have hL3:L.length<=3:=by omega
   refine⟨λσ' fQ=>∃m',m'<(Tr.bin op' a' b').size/\∃rx x as L,σ'=[some (.ref r),some (.int (k':Nat)),some (.ref D),some (.ref rx),none,none]/\m'=x.size/\Yp (.bin op a b) k' (upd H D (.lst [])) D fQ rx x as L,λ_ _ z=>z,?_⟩;refine⟨_,rfl,.inl ⟨rfl,_,aG.of S.ls⟩,_,rfl,D,_,_,rfl,rfl,S.ls,SQ (by rw[length_map];omega),?_⟩;have tu:bQ H' (upd H' D (.lst (as.map V.ref++[.ref rx]))):=dX S.ls;refine⟨_,rfl,rx,_,_,.ref x',rfl,rfl,a9.of (tu _ _ hb'),rfl,a'.size,by rw[Tr.size];omega,x',a',as++[rx],L++[(op',b')],rfl,rfl,?_⟩;refine⟨by rw[a8,map_append];rfl,S.bt.trans qJ,ha'.mono tu,hok'.2.1,iU (Paired.gJ S.ln λ_ _ e=>e.mono tu) (.cons ⟨x',y',tu _ _ hb',hb2.mono tu⟩ .nil),?_,by rw[length_append];show _+1+_<=_;omega,λy hy=>?_,λz=>by simp at z⟩
   ·rw[S.ch,Kh jT hk',Kl]
    simp only[append_assoc]
   ·rcases List.mem_append.mp hy with hy|hy
    ·exact S.al y hy
    ·rw[List.mem_singleton.mp hy]
     exact⟨hok'.2.2,by show b'.deep<_;omega,hk'⟩
  |_=>cases e1
 case ga|gd=>
  have hne:L≠[]:=λz=>hno (by rw[S.st z];exact ek)
  have hL1:1<=L.length:=by cases L with
   |nil=>exact absurd rfl hne
   |cons y L=>rw[length_cons];omega
  have hdp:=S.dp;have hch:jd jT k (.bin op a b)=(f7 jT k x (bh jT x),jV jT L):=by
   rw[S.ch];unfold jd;rw[if_neg hno];rfl
  have Yr:∀i,((L.reverse.take i).flatMap λy=>dj jT y.1 y.2).length<=9:=λi=>by
   rw[lM _ 3 _ λ_ _=>rfl,length_take,length_reverse];omega
  refine⟨aC,λD2 hD2=>?_⟩;have n2:=ao hD2 (.lst []);have On:D≠D2:=c6 S.ls hD2;have s1:Same H H':=λc o e=>S.bt _ _ (s0 _ _ e) (c6 e hD)
  have Os:H D2=none:=s1.free hD2;have Cw:=n2 _ _ S.ls;have Ys:Paired (xu (upd H' D2 (.lst []))) as L:=Paired.gJ S.ln λ_ _ e=>e.mono (.of n2)
  have vp:=S.tr.mono (.of n2);have D7:(upd H' D2 (.lst [])) D2=some (.lst []):=a8;have s2:Same H (upd H' D2 (.lst [])):=s1.trans n2
  generalize upd H' D2 (.lst [])=H2 at Cw Ys vp D7 s2
  refine⟨_,rfl,D,_,rfl,aG.of Cw,B9 (K:=K) (a:=D) (xs:=as.map V.ref) (λi σ H4=>∃(v5:Option V) (bs:List Addr),σ=[some (.ref r),some (.int (k:Nat)),some (.ref D),some (.ref rx),some (.ref D2),v5]/\cB D2 H2 H4/\H4 D2=some (.lst (bs.map V.ref))/\cM H4 bs ((L.reverse.take i).flatMap λy=>dj jT y.1 y.2))
   ⟨_,[],rfl,cB.refl,D7,.nil⟩ (λi σ H4 _ ⟨_,_,_,b,_⟩=>aG.of (b _ _ Cw On)) ?_ ?_⟩
  ·rintro i v σ H4 hv ⟨v5,bs,rfl,b4,oF,P4⟩
   rw[<-map_reverse] at hv
   have hrev:Paired (xu H2) as.reverse L.reverse:=Bx Ys;have hrl:=Paired.length hrev;have hi:i<as.reverse.length:=by have:=(List.getElem?_eq_some_iff.mp hv).1;rwa [length_map] at this
   have Dc:L.reverse[i]? = some L.reverse[i]:=getElem?_eq_getElem (by omega)
   generalize L.reverse[i]=y at Dc
   obtain⟨ai,hai,lp,ly,hla,hlt⟩:=Kg hrev Dc;rw[getElem?_map,hai] at hv
   cases hv;have Dd:bQ H2 H4:=λc xs e=>b4 _ _ e (cR e D7 (by intro z;cases z))
   have Yt:=Dd _ _ hla;have Oy:y∈L:=List.mem_reverse.mp (mem_of_getElem? Dc);obtain⟨y1,y2,y3⟩:=S.al y Oy;have tM:=nA P4;have hl9:=Yr i;refine⟨_,rfl,.inl ⟨rfl,_,aG.of oF⟩,aC,λp1 h1=>?_⟩;have m1:=ao h1 (.tup [.str "line"])
   refine⟨_,rfl,ai,_,_,.str (tx [y.1]),rfl,rfl,a9.of (m1 _ _ Yt),rfl,_,_,rfl,rfl,d4 (by rw[dz];show 1+1<=_;omega),aC,λp2 h2=>?_⟩;have m2:=ao h2 (.tup [.str "text",.str (tx [y.1]++Str.ofString " ")])
   refine⟨_,rfl,ai,_,_,.ref ly,rfl,rfl,a9.of (m2 _ _ (m1 _ _ Yt)),rfl,_,rfl,ly,y.2,k,rfl,((hlt.mono Dd).mono (.of (m1.trans m2))),y1,by omega,by omega,λr5 H5 s5 P5=>⟨aC,λE1 jy=>?_⟩⟩;have m3:=ao jy (.lst [.ref p1,.ref p2,.ref r5]);have m4:Same H4 _:=m1.trans (m2.trans (s5.trans m3));refine⟨D2,E1,_,_,rfl,rfl,m4 _ _ oF,a8,d4 (by rw[length_map];show _+3<=_;omega),?_⟩;have c1:aZ (upd H5 E1 (.lst [.ref p1,.ref p2,.ref r5])) .line p1:=m3 _ _ (s5 _ _ (m2 _ _ a8));have c2:aZ (upd H5 E1 (.lst [.ref p1,.ref p2,.ref r5])) (.text [y.1,32]) p2:=by
    show _=some (HO.tup [.str "text",.str (tx [y.1,32])])
    have e:tx [y.1,32]=tx [y.1]++Str.ofString " ":=by rw[show[y.1,32]=[y.1]++[32] from rfl,<-j8];congr 1
    rw[e];exact m3 _ _ (s5 _ _ a8)
   have c3:=P5.mono (.of m3);have Ae:=m4 _ _ oF;have P6:=cM.mono (.of m4) P4
   generalize upd H5 E1 (.lst [.ref p1,.ref p2,.ref r5])=H6 at m4 c1 c2 c3 Ae P6
   have tu:bQ H6 (upd H6 D2 (.lst (bs.map V.ref++[.ref p1,.ref p2,.ref r5]))):=dX Ae;refine⟨_,bs++[p1,p2,r5],rfl,b4.trans ((cB.of m4).trans qJ),by rw[a8,map_append];rfl,?_⟩;rw[zk3 Dc,flatMap_append];have el:([y].flatMap λy=>dj jT y.1 y.2)=[.line,.text [y.1,32],f7 jT k y.2 (bh jT y.2)]:=by
    show dj jT y.1 y.2++[]=_;unfold dj;rw[y3];rfl
   rw[el];exact cM.append (cM.mono tu P6) (.cons (c1.mono tu) (.cons (c2.mono tu) (.cons (c3.mono tu) .nil)))
  ·rintro σ H4 ⟨v5,bs,rfl,b4,oF,P4⟩
   have hal:(as.map V.ref).length=L.reverse.length:=by rw[length_map,length_reverse,hlen]
   have hl9:=Yr L.reverse.length;rw[hal] at P4
   rw[take_length] at P4 hl9
   have tM:=nA P4;have Dd:bQ H2 H4:=λc xs e=>b4 _ _ e (cR e D7 (by intro z;cases z))
   have Ac:Same H H4:=Y5 s2 Os b4;have hlp:3<=((L.reverse).flatMap λy=>dj jT y.1 y.2).length:=by
    rw[lM _ 3 _ λ_ _=>rfl,length_reverse];omega
   refine⟨_,rfl,_,rfl,rx,x,k,rfl,vp.mono Dd,S.ok,by omega,by omega,λr5 H5 s5 P5=>?_⟩;refine⟨_,rfl,D2,bs,_,rfl,s5 _ _ oF,cM.mono (.of s5) P4,(by show(List.flatMap _ _).length<=10;omega),by omega,λr6 H6 s6 P6=>⟨aC,λp2 h2=>⟨aC,λE1 jy=>?_⟩⟩⟩;have m2:=ao h2 (.tup [.str "nest",.int 2,.ref r6])
   have m3:=ao jy (.lst [.ref r5,.ref p2]);have Km:=m2.trans m3;refine⟨E1,[r5,p2],[f7 jT k x (bh jT x),.nest 2 (jT (jV jT L))],rfl,a8,.cons (P5.mono (.of (s6.trans Km))) (.cons ⟨r6,m3 _ _ a8,P6.mono (.of Km)⟩ .nil),(by show 2<=10;decide),(by show 2<=1000;decide),λr7 H7 s7 P7=>?_⟩;refine⟨r7,_,rfl,P7,λr8 H8 s8 P8=>q r8 H8 (Ac.trans (s5.trans (s6.trans (Km.trans (s7.trans s8))))) ?_⟩;rw[Yo,hk,hch];exact P8
end
inductive xG(vs:List V)(H:Hp)(Q:VK)(E':XK):Prop
 |mk (l:Addr) (as:List Addr) (ps:List Plan) (z0:vs=[.ref l]) (z1:H l=some (.lst (as.map V.ref))) (z2:cM H as ps) (z3:ps≠[]) (z4:ps.length<=1000) (z5:∀(r:Addr) (H':Hp),Same H H'->aZ H' (aY ps) r->Q (.ref r) H'):xG vs H Q E'
def Ag:Nat->Sp
 |0=>λ_ _ _ _=>False
 |d+1=>λvs H Q _=>∃(r:Addr) (t:Tr),vs=[.ref r]/\dh H t r/\t.ok/\t.deep<=d/\t.deep<=3/\∀(r':Addr) (H':Hp),Same H H'->aZ H' (bh aY t) r'->Q (.ref r') H'
inductive Ko(d:Nat)(vs:List V)(H:Hp)(Q:VK)(E':XK):Prop
 |mk (o c:List Nat) (l:Addr) (as:List Addr) (ts:List Tr) (z0:vs=[.str (tx o),.ref l,.str (tx c)]) (z1:o.length<=100) (z2:c.length<=100) (z3:H l=some (.tup (as.map V.ref))) (z4:dZ H ts as) (z5:Tr.j9 ts) (z6:ts.length<=3) (z7:Tr.eN ts<d) (z8:Tr.eN ts<3) (z9:∀(r':Addr) (H':Hp),Same H H'->aZ H' (iJ aY o (dH aY ts) c) r'->Q (.ref r') H'):Ko d vs H Q E'
inductive Kp(d:Nat)(vs:List V)(H:Hp)(Q:VK)(E':XK):Prop
 |mk (r u:Addr) (t:Tr) (zs:List Str) (b:Bool) (z0:vs=[.ref r,.ref u]) (z1:H u=some (.tup (zs.map V.str))) (z2:inV (.str (hdT t)) (zs.map V.str) = !b) (z3:dh H t r) (z4:t.ok) (z5:t.deep<d) (z6:t.deep<=3) (z7:∀(r':Addr) (H':Hp),Same H H'->aZ H' (if b then bh aY t else aY [.text [40],.align (bh aY t),.text [41]]) r'->Q (.ref r') H'):Kp d vs H Q E'
noncomputable def tR(ps:List Plan)(i:Nat):List Plan:=if i=0 then[.cut] else gk (ps.take i)++if i<ps.length then[.text [44],.line] else[]
theorem OA    (h : ps[i]? = some p) : tR ps (i + 1) = tR ps i ++ [p] ++ if i + 1 < ps.length then [.text [44], .line] else [] := by
  have hi : i < ps.length := (List.getElem?_eq_some_iff.mp h).1;unfold tR;rw [if_neg (Nat.succ_ne_zero i), zk3 h]
  congr 1
  cases i with
  | zero => rw [take_zero, if_pos rfl]; rfl
  | succ i =>
    rw [if_neg (Nat.succ_ne_zero i), if_pos hi];cases hq : ps.take (i + 1) with
    | nil => have : (ps.take (i + 1)).length = i + 1 := by rw [length_take]; omega
             rw [hq] at this; cases this
    | cons q qs =>
      show Plan.cut :: q :: List.flatMap _ (qs ++ [p]) = (Plan.cut :: q :: List.flatMap _ qs) ++ [.text [44], .line] ++ [p];rw [flatMap_append];simp
theorem OB (h:ps≠[]):tR ps ps.length=gk ps:=by
 unfold tR
 rw[if_neg (by cases ps with
  |nil=>exact absurd rfl h
  |cons p ps=>simp),take_length,if_neg (lt_irrefl _),append_nil]
theorem Yu(ps:List Plan)(i:Nat)(h:ps.length<=3):(tR ps i).length<=20:=by
 unfold tR
 split
 ·decide
 ·have:=qw (ps.take i)
  rw[length_take] at this
  rw[length_append]
  split
  ·show _+2<=_;omega
  ·show _+0<=_;omega
theorem Yv:cQ ["_law_plans","_law_found","_law_plan"] ["_law_plans"] (cg Hq):=⟨rfl,rfl,rfl, ⋯,rfl, ⋯, ⋯⟩
theorem OC(F:cA K "_law_joined" "_law_joined" Hq f fd):aH P w K mg base aB 1 f fd ["_law_plans"] xG:=by
 refine F.cU Yv (λvs H Q E h=>?_) (λcdv A outer s H vs Q E hr h=>?_)
 ·obtain⟨l,as,ps,rfl,_⟩:=h
  rfl
 obtain⟨l,as,ps,rfl,hl,hP,hne,hk,q⟩:=h;have nd:=Yv.nd
 refine⟨_,au (aO (i:=1) nd rfl (Or.inl rfl) (aF gK (a6 0) ak (λ_ _=>rfl)))<|
  au (lK PassesOwn.never rfl (nU (yF B6 (a6 0) (yE ak) yq)) (jX (i:=2) nd rfl (Or.inl rfl)) (aL (aO (i:=1) nd rfl (Or.inl rfl) (bf (aM aK (aq (a6 1) (aq (a6 2) a7)))))))<|
  aL (bx (a6 1)),?_⟩
 cases hP with
 |nil=>exact absurd rfl hne
 |@cons a p as ps hp hrest=>
  refine⟨_,rfl,l,_,_,.ref a,rfl,rfl,aG.of hl,(by show dN (V.ref a::as.map V.ref) ((0:Nat):Int)=_;exact gF rfl),_,rfl,_,rfl,l,_,rfl,aG.of hl,λu hu=>?_⟩;have K8:iT ((a::as).map V.ref) (some 1) none=as.map V.ref:=by
   show iT (V.ref a::as.map V.ref) (some ((1:Nat):Int)) none=_;rw[Ii];rfl
  rw[K8];have s1:=ao hu (.lst (as.map V.ref));have hu1:(upd H u (.lst (as.map V.ref))) u=some (.lst (as.map V.ref)):=a8;have hp1:=hp.mono (.of s1);have hr1:=cM.mono (.of s1) hrest
  generalize upd H u (.lst (as.map V.ref))=H1 at s1 hu1 hp1 hr1
  refine⟨u,rfl,⟨_,aG.of hu1⟩,yd (K:=K) (a:=u) (xs:=as.map V.ref) (λi σ H2=>∃(rf:Addr) (v2:Option V),σ=[some (.ref l),some (.ref rf),v2]/\Same H1 H2/\aZ H2 ((ps.take i).foldl Plan.beside p) rf)
   ⟨a,_,rfl,Same.refl _,by rw[take_zero];exact hp1⟩ (λi σ H2 _ ⟨_,_,_,s2,_⟩=>aG.of (s2 _ _ hu1)) ?_ ?_⟩
  ·rintro i x σ H2 hx ⟨rf,v2,rfl,s2,p2⟩
   obtain⟨ai,pi,rfl,_,hpi,hpa⟩:=hr1.get hx;refine⟨_,rfl,_,rfl,aC,λt ht=>⟨t,_,rfl,s2.trans (ao ht _),?_⟩⟩;rw[zk3 hpi,foldl_append];have n:=ao ht (.tup [.str "beside",.ref rf,.ref ai])
   exact⟨rf,ai,a8,p2.mono (.of n),(hpa.mono (.of s2)).mono (.of n)⟩
  ·rintro σ H2 ⟨rf,v2,rfl,s2,p2⟩
   have:=nA hr1;rw[length_map,this,take_length] at p2
   exact⟨_,rfl,q rf H2 (s1.trans s2) p2⟩
theorem Yw:cQ ["_law_tree_here","_law_kinds","_law_plan"] ["_law_tree_here","_law_kinds"] (cg Hs):=⟨rfl,rfl,rfl, ⋯,rfl, ⋯, ⋯⟩
theorem OG   (F:cA K "_law_operand" "_law_operand" Hs f fd)
  (GE:aH P w K mg base aB n fE dE ["_law_tree_here"] (Ag d)) (bE:Binds K dE ["_law_tree_here"] []) (kE:keepIn K (.ref fE)=true) (mE:mg "_law_plan_of"=some (.ref fE))
  (GJ:aH P w K mg base aB 1 fJ dJ ["_law_plans"] xG) (bJ:Binds K dJ ["_law_plans"] []) (kJ:keepIn K (.ref fJ)=true) (mJ:mg "_law_joined"=some (.ref fJ)) (hn:1<=n):aH P w K mg base aB (n+1) f fd ["_law_tree_here","_law_kinds"] (Kp d):=by
 refine F.cU Yw (λvs H Q E h=>?_) (λcdv A outer s H vs Q E hr h=>?_)
 ·obtain⟨r,u,t,zs,b,rfl,_⟩:=h
  rfl
 obtain⟨r,u,t,zs,b,rfl,hu,hin,hT,ho,hd,gw,q⟩:=h;have nd:=Yw.nd;have hr1:cZ 1 _:=hr.mono hn
 refine⟨_,au (aO (i:=2) nd rfl (Or.inl rfl) (c9 GE hr rfl mE kE bE .nil aU (aq (a6 0) a7)))<|
  au (cN (cI qY (aF aN (a6 0) ak (λ_ _=>rfl)) (a6 1) rfl) (aL (bx (c9 GJ hr1 rfl mJ kJ bJ .nil aU (oR (cX (d0 (bf (aM aK (aM aK a7))) (d0 (bf (aM aK (aq (a6 2) a7))) (d0 (bf (aM aK (aM aK a7))) a7)))) a7)))) cW)<|
  aL (bx (a6 2)),?_⟩
 cases d with
 |zero=>omega
 |succ d=>
 refine⟨_,rfl,r,t,rfl,hT,ho,by omega,gw,λr1 H1 s1 P1=>?_⟩;obtain⟨xs,hx⟩:=vf hT;have hat:dN (V.str (hdT t)::xs) (0:Int)=some (.str (hdT t)):=by show dN (V.str (hdT t)::xs) ((0:Nat):Int)=_;exact gF rfl
 refine⟨_,rfl,r,_,_,_,rfl,rfl,a9.of (s1 _ _ hx),hat,_,rfl,u,_,rfl,.inr (a9.of (s1 _ _ hu)),rfl,?_,_,rfl,?_⟩
 ·clear hin hu
  induction zs with
  |nil=>rfl
  |cons z zs ih=>exact ih
 show if inV (.str (hdT t)) (zs.map V.str)=true then _ else _
 rw[hin];cases b with
 |true=>exact aP (by decide) ⟨_,rfl,q r1 H1 s1 P1⟩
 |false=>
  refine cG rfl ?_;refine⟨aC,λp1 h1=>⟨_,rfl,aC,λp2 h2=>⟨aC,λp3 h3=>⟨aC,λl hl=>?_⟩⟩⟩⟩
  have n1:=ao h1 (.tup [.str "text",.str "("])
  have n2:=ao h2 (.tup [.str "align",.ref r1])
  have n3:=ao h3 (.tup [.str "text",.str ")"])
  have n4:=ao hl (.lst [.ref p1,.ref p2,.ref p3])
  have Ad:(Str.ofString "(")=tx [40]:=by decide +kernel
  have K6:(Str.ofString ")")=tx [41]:=by decide +kernel
  refine⟨l,[p1,p2,p3],[.text [40],.align (bh aY t),.text [41]],rfl,a8,.cons ?_ (.cons ?_ (.cons ?_ .nil)),(by simp),(by show 3<=1000;decide),λr' H' s' P'=>q r' H' (s1.trans (n1.trans (n2.trans (n3.trans (n4.trans s'))))) P'⟩
  ·show _=some (HO.tup [.str "text",.str (tx [40])])
   rw[<-Ad];exact n4 _ _ (n3 _ _ (n2 _ _ a8))
  ·exact⟨r1,n4 _ _ (n3 _ _ a8),P1.mono (.of (n1.trans (n2.trans (n3.trans n4))))⟩
  ·show _=some (HO.tup [.str "text",.str (tx [41])])
   rw[<-K6];exact n4 _ _ a8
theorem Yx:cQ ["_law_first","_law_parts_here","_law_last","_law_inner","_law_k","_law_plan"] ["_law_first","_law_parts_here","_law_last"] (cg Hr):=⟨rfl,rfl,rfl, ⋯,rfl, ⋯, ⋯⟩
theorem OH   (F:cA K "_law_parts" "_law_parts" Hr f fd)(mr:mg "range"=none)(ml:mg "len"=none)(mi:mg "int"=none)
  (GE:aH P w K mg base aB n fE dE ["_law_tree_here"] (Ag d)) (bE:Binds K dE ["_law_tree_here"] []) (kE:keepIn K (.ref fE)=true) (mE:mg "_law_plan_of"=some (.ref fE))
  (GJ:aH P w K mg base aB 1 fJ dJ ["_law_plans"] xG) (bJ:Binds K dJ ["_law_plans"] []) (kJ:keepIn K (.ref fJ)=true) (mJ:mg "_law_joined"=some (.ref fJ)) (hn:1<=n):aH P w K mg base aB (n+1) f fd ["_law_first","_law_parts_here","_law_last"] (Ko d):=by
 refine F.cU Yx (λvs H Q E h=>?_) (λcdv A outer s H vs Q E hr h=>?_)
 ·obtain⟨o,c,l,as,ts,rfl,_⟩:=h
  rfl
 obtain⟨o,c,l,as,ts,rfl,ho,hc,hl,hT,hok,h3,hd,gw,q⟩:=h;have nd:=Yx.nd;have hr1:cZ 1 _:=hr.mono hn
 refine⟨_,au (cN (Fz (nY (a6 1) (λ_=>rfl))) (aL (bx (bf (aM aK (iC (bK pQ (a6 0) (a6 2)) a7))))) cW)<|
  au (aO (i:=3) nd rfl (Or.inl rfl) (cX (d0 (bf (aM aK a7)) a7)))<|
  au (lK PassesOwn.never rfl (TV rfl mr (dw (j4 pW rfl ml PySem.boot_len (aq (a6 1) a7)) a7)) (jX (i:=4) nd rfl (Or.inl rfl))
   (aL (aO (i:=3) nd rfl (Or.inl rfl) (bK rA (bK rA (a6 3) (cX (dw (c9 GE hr rfl mE kE bE .nil aU (cF (aF aN (a6 1) (a6 4) (λ_ _=>rfl)) a7)) a7)))
    (bK qf (cX (d0 (bf (aM aK (aM aK a7))) (d0 (bf (aM aK a7)) a7))) (uz Rm rfl mi boot_int (vR (vQ vD (a6 4) (bK pO (j4 pW rfl ml PySem.boot_len (aq (a6 1) a7)) ak) (cP _)) a7 rfl)))))))<|
  au (aO (i:=5) nd rfl (Or.inl rfl) (c9 GJ hr1 rfl mJ kJ bJ .nil aU (oR (cX (d0 (bf (aM aK (aq (a6 0) a7))) (d0 (bf (aM aK (aM ak (dw (c9 GJ hr1 rfl mJ kJ bJ .nil aU (aq (a6 3) a7)) a7)))) (d0 (bf (aM aK a7)) (d0 (bf (aM aK (aq (a6 2) a7))) a7))))) a7)))<|
  aL (bx (bf (aM aK (d0 (bf (aM aK (aq (a6 5) a7))) (aq (a6 5) a7))))),?_⟩
 have hlen:=hT.len;have K7:(Str.ofString ",")=tx [44]:=by decide +kernel
 refine⟨_,rfl,_,.inr (.inl ⟨_,a9.of hl,rfl⟩),?_⟩
 by_cases hts:ts=[]
 ·subst hts
  have e:as=[]:=by rw[dZ] at hT;exact hT
  subst e;refine cG (by simp) ?_;refine⟨_,rfl,_,rfl,_,_,rfl,rfl,d4 (by rw[dz,dz];omega),aC,λp hp=>q p _ (ao hp _) ?_⟩;rw[dH];show _=some (HO.tup [.str "text",.str (tx (o++c))])
  rw[<-j8];exact a8
 ·have OI:as≠[]:=λz=>hts (by rw[z] at hlen;exact List.eq_nil_of_length_eq_zero hlen.symm)
  refine aP (by cases as with
   |nil=>exact absurd rfl OI
   |cons a as=>simp) ?_
  refine⟨aC,λp0 hp0=>⟨aC,λD0 OM=>?_⟩⟩;have n0:=ao hp0 (.tup [.str "cut"])
  have n1:=ao OM (.lst [.ref p0]);have Yy:=n0.trans n1;have hml:(as.map V.ref).length=ts.length:=by rw[length_map,hlen]
  refine⟨_,rfl,l,_,rfl,.inr (a9.of (Yy _ _ hl)),_,rfl,by omega,by rw[hml];omega,?_⟩;have OO:((((as.map V.ref).length:Nat):Int)).toNat=ts.length:=by rw[hml];omega
  rw[OO];have xH:(dH aY ts).length=ts.length:=by rw[jO,length_map]
  refine ke (lo:=0) (n:=ts.length) (λi σ H4=>∃(fl:Addr) (bs:List Addr) (v4:Option V),σ=[some (.str (tx o)),some (.ref l),some (.str (tx c)),some (.ref fl),v4,none]/\Same H H4/\H4 fl=some (.lst (bs.map V.ref))/\cM H4 bs (tR (dH aY ts) i))
   ⟨D0,[p0],none,rfl,Yy,a8,.cons (n1 _ _ a8) .nil⟩ ?_ ?_
  ·rintro i σ H4 hi ⟨fl,bs,v4,rfl,s4,hfl,P4⟩
   have hti:ts[i]? = some ts[i]:=getElem?_eq_getElem hi
   generalize ts[i]=ti at hti
   obtain⟨ai,hai,hTi⟩:=dZ.get hT hti;have him:=mem_of_getElem? hti;have hdi:=uJ him;have tM:=nA P4;have hpl:=Yu (dH aY ts) i (by rw[xH];exact h3);have e0:(0:Int)+(i:Int)=((i:Nat):Int):=by omega
   cases d with
   |zero=>omega
   |succ d=>
   refine⟨_,rfl,_,rfl,_,rfl,l,_,_,.ref ai,rfl,rfl,a9.of (s4 _ _ hl),?_,ai,ti,rfl,hTi.mono (.of s4),su hok him,by omega,by omega,λr5 H5 s5 P5=>?_⟩
   ·rw[e0]
    exact gF (by rw[getElem?_map,hai];rfl)
   refine⟨aC,λl1 h1=>?_⟩;have m1:=ao h1 (.lst [.ref r5]);refine⟨fl,l1,_,_,rfl,rfl,m1 _ _ (s5 _ _ hfl),a8,d4 (by rw[length_map];show _+1<=_;omega),λl2 h2=>?_⟩;have m2:=ao h2 (.lst (bs.map V.ref++[.ref r5]));refine⟨aC,λp1 hp1=>⟨aC,λp2 hp2=>⟨aC,λl3 hl3=>?_⟩⟩⟩;have m3:=ao hp1 (.tup [.str "text",.str ","])
   have m4:=ao hp2 (.tup [.str "line"])
   have m5:=ao hl3 (.lst [.ref p1,.ref p2]);have OQ:=m1.trans (m2.trans (m3.trans (m4.trans m5)));have Yz:=s4.trans s5;refine⟨_,rfl,_,rfl,l,_,rfl,.inr (a9.of ((Yz.trans OQ) _ _ hl)),_,_,rfl,rfl,_,_,rfl,rfl,.inr ⟨_,rfl,?_⟩⟩;obtain⟨m,em,hm1,hm2⟩:∃m:Nat,(if decide ((0:Int)+(i:Int)<(((as.map V.ref).length:Nat):Int) - 1)=true then(1:Int) else 0)=(m:Int)/\m<=1/\(List.replicate m [V.ref p1,V.ref p2]).flatten=(if i+1<(dH aY ts).length then[p1,p2] else[]).map V.ref:=by
    rw[xH,hml]
    by_cases hlt:i+1<ts.length
    ·exact⟨1,by rw[if_pos (decide_eq_true (by omega))];rfl,le_refl _,by rw[if_pos hlt];rfl⟩
    ·exact⟨0,by rw[if_neg (by rw[decide_eq_false (by omega)];decide)];rfl,by decide,by rw[if_neg hlt];rfl⟩
   rw[em];refine⟨l3,_,_,rfl,rfl,a8,by omega,by omega,d4 (by show 2*_<=_;omega),λl4 OS=>?_⟩;have em':((m:Int)).toNat=m:=by omega
   rw[em',hm2];have m6:=ao OS (.lst ((if i+1<(dH aY ts).length then[p1,p2] else[]).map V.ref));refine⟨l2,l4,_,_,rfl,rfl,m6 _ _ (m5 _ _ (m4 _ _ (m3 _ _ a8))),a8,d4 ?_,λl5 JN=>?_⟩
   ·rw[length_append,length_map,length_map]
    have:(if i+1<(dH aY ts).length then[p1,p2] else[]).length<=2:=by split<;>simp
    show _+1+_<=_;omega
   have m7:=ao JN (.lst (bs.map V.ref++[.ref r5]++(if i+1<(dH aY ts).length then[p1,p2] else[]).map V.ref));have Kq:=m1.trans (m2.trans (m3.trans (m4.trans (m5.trans (m6.trans m7)))));refine⟨l5,bs++[r5]++(if i+1<(dH aY ts).length then[p1,p2] else[]),_,rfl,Yz.trans Kq,by rw[a8,map_append,map_append];rfl,?_⟩;have hpi:(dH aY ts)[i]? = some (bh aY ti):=by rw[jO,getElem?_map,hti];rfl
   rw[OA hpi];refine cM.append (cM.append (cM.mono (.of (s5.trans Kq)) P4) (.cons (P5.mono (.of Kq)) .nil)) ?_;have fin:∀H9:Hp,aZ H9 (.text [44]) p1->aZ H9 .line p2->cM H9 (if i+1<(dH aY ts).length then[p1,p2] else[]) (if i+1<(dH aY ts).length then[.text [44],.line] else[]):=λH9 c1 c2=>by
    split
    ·exact .cons c1 (.cons c2 .nil)
    ·exact .nil
   refine fin _ ?_ (m7 _ _ (m6 _ _ (m5 _ _ a8)));show _=some (HO.tup [.str "text",.str (tx [44])])
   rw[<-K7];exact m7 _ _ (m6 _ _ (m5 _ _ (m4 _ _ a8)))
  ·rintro σ H4 ⟨fl,bs,v4,rfl,s4,hfl,P4⟩
   have hne:dH aY ts≠[]:=λz=>hts (List.eq_nil_of_length_eq_zero (by rw[<-xH,z];rfl))
   have hpl:=Yu (dH aY ts) ts.length (by rw[xH];exact h3);have hil:=qw (dH aY ts);rw[<-xH,OB hne] at P4
   rw[xH] at hil
   have tM:=nA P4;have OT:gk (dH aY ts)≠[]:=by
    cases hq:dH aY ts with
    |nil=>exact absurd hq hne
    |cons p ps=>exact λz=>nomatch z
   refine⟨_,rfl,aC,λp1 h1=>?_⟩;have m1:=ao h1 (.tup [.str "text",.str (tx o)])
   refine⟨_,rfl,fl,bs,_,rfl,m1 _ _ hfl,cM.mono (.of m1) P4,OT,by omega,λr5 H5 s5 P5=>⟨aC,λp2 h2=>⟨aC,λp3 h3'=>⟨_,rfl,aC,λp4 h4=>⟨aC,λE1 jy=>?_⟩⟩⟩⟩⟩;have m2:=ao h2 (.tup [.str "nest",.int 2,.ref r5])
   have m3:=ao h3' (.tup [.str "cut"])
   have m4:=ao h4 (.tup [.str "text",.str (tx c)])
   have m5:=ao jy (.lst [.ref p1,.ref p2,.ref p3,.ref p4]);have vo:=m2.trans (m3.trans (m4.trans m5));refine⟨E1,[p1,p2,p3,p4],[.text o,.nest 2 (aY (gk (dH aY ts))),.cut,.text c],rfl,a8,.cons (vo _ _ (s5 _ _ a8)) (.cons ⟨r5,m5 _ _ (m4 _ _ (m3 _ _ a8)),P5.mono (.of vo)⟩ (.cons (m5 _ _ (m4 _ _ a8)) (.cons (m5 _ _ a8) .nil))),(by simp),(by show 4<=1000;decide),λr6 H6 s6 P6=>?_⟩;refine⟨_,rfl,aC,λp5 h5=>⟨_,rfl,aC,λp6 h6=>?_⟩⟩;have m6:=ao h5 (.tup [.str "flat",.ref r6])
   have m7:=ao h6 (.tup [.str "choice",.ref p5,.ref r6])
   refine q p6 _ (s4.trans (m1.trans (s5.trans (vo.trans (s6.trans (m6.trans m7)))))) ?_;unfold iJ
   rw[if_neg (by cases hq:dH aY ts with
    |nil=>exact absurd hq hne
    |cons p ps=>exact λz=>nomatch z)]
   have YB:=P6.mono (.of (m6.trans m7));exact⟨p5,r6,a8,⟨r6,m7 _ _ a8,YB⟩,YB⟩
theorem pc:¬(("pieces":Str)="column"):=by decide +kernel
noncomputable def mK(l:Addr)(c:Int):List (Str×V):=eY "column" (.int c) (eY "pieces" (.ref l) [])
theorem Df(l:Addr)(c:Int):mK l c=([("pieces",V.ref l),("column",V.int c)]:List (Str×V)):=by
 show(if("pieces":Str)="column" then[(("pieces":Str),V.int c)] else(("pieces":Str),V.ref l)::eY "column" (V.int c) [])=([("pieces",V.ref l),("column",V.int c)]:List (Str×V))
 rw[if_neg pc]
 all_goals rfl
theorem Kr(l:Addr)(c:Int):(mK l c).lookup ("pieces":Str)=some (.ref l):=by
 unfold mK;rw[uf,if_neg pc,uf,if_pos rfl]
theorem YC(l:Addr)(c:Int):(mK l c).lookup ("column":Str)=some (.int c):=by
 unfold mK;rw[uf,if_pos rfl]
theorem Ku(l:Addr)(c:Int){m:Str}(h1:¬m="column")(h2:¬m="pieces"):(mK l c).lookup m=none:=by
 unfold mK;rw[uf,if_neg h1,uf,if_neg h2]
 all_goals rfl
theorem YD(l:Addr)(c y:Int):eY "column" (.int y) (mK l c)=mK l y:=by
 rw[Df,Df];show(if("pieces":Str)="column" then _ else(("pieces":Str),V.ref l)::(if("column":Str)="column" then[(("column":Str),V.int y)] else _))=([("pieces",V.ref l),("column",V.int y)]:List (Str×V))
 rw[if_neg pc,if_pos rfl]
structure jz(C:Addr)(H:Hp)(p l:Addr)(cu:List (List Nat))(c:Nat):Prop where
 ob:∃dx,H p=some (.ins C dx (mK l (c:Int)))
 ls:H l=some (.lst (cu.map λx=>V.str (tx x)))
theorem jz.ne  {p:Addr}{cu:List (List Nat)} (S:jz C H p l cu c):p≠l:=by
 obtain⟨⟨dx,h1⟩,h2⟩:=S;exact cR h1 h2 (by intro z;cases z)
theorem jz.mono  {p:Addr}{cu:List (List Nat)} (S:jz C H p l cu c)(s:Same H H'):jz C H' p l cu c:=by
 obtain⟨⟨dx,h1⟩,h2⟩:=S;exact⟨⟨dx,s _ _ h1⟩,s _ _ h2⟩
def But(p l:Addr)(H H':Hp):Prop:=∀b o,H b=some o->b≠p->b≠l->H' b=some o
inductive Dg(C:Addr)(vs:List V)(H:Hp)(Q:VK)(E':XK):Prop
 |mk (p dx:Addr) (z0:vs=[.ref p]) (z1:H p=some (.ins C dx [])) (z2:∀(l:Addr) (H':Hp),H l=none->jz C H' p l [] 0->(∀b o,H b=some o->b≠p->H' b=some o)->Q .non H'):Dg C vs H Q E'
inductive xJ(C:Addr)(vs:List V)(H:Hp)(Q:VK)(E':XK):Prop
 |mk (p l:Addr) (cu:List (List Nat)) (c:Nat) (x:List Nat) (z0:vs=[.ref p,.str (tx x)]) (z1:jz C H p l cu c) (z2:cu.length<=1000000) (z3:x.length<=1000000) (z4:∀H',jz C H' p l (cu++[x]) (c+x.length)->But p l H H'->Q .non H'):xJ C vs H Q E'
inductive Dh(C:Addr)(vs:List V)(H:Hp)(Q:VK)(E':XK):Prop
 |mk (p l:Addr) (cu:List (List Nat)) (c m:Nat) (z0:vs=[.ref p,.int m]) (z1:jz C H p l cu c) (z2:cu.length<=999999) (z3:m<=1000000) (z4:∀H',jz C H' p l (cu++[[10],List.replicate m 32]) m->But p l H H'->Q .non H'):Dh C vs H Q E'
structure xK(K:Frag)(mg:eV)(C:Addr):Prop where
 cl:Cls K C
 nP:jF K C "pieces"
 nC:jF K C "column"
 len:mg "len"=none
theorem OU:cQ ["self"] ["self"] (cg Hv):=⟨rfl,rfl,rfl, ⋯,rfl, ⋯, ⋯⟩
theorem OV(F:cA K "__init__" "Sheet.__init__" Hv f fd)(T:xK K mg C):aH P w K mg base aB 1 f fd ["self"] (Dg C):=by
 refine F.cU OU (λvs H Q E h=>?_) (λcdv A outer s H vs Q E hr h=>?_)
 ·obtain⟨p,dx,rfl,_⟩:=h
  rfl
 obtain⟨p,dx,rfl,hp,k⟩:=h;refine⟨_,au (pY (a6 0) (cX a7) rfl) (aL (pY (a6 0) ak rfl)),?_⟩;refine⟨aC,λl hl=>?_⟩;have iY:p≠l:=c6 hp hl;refine⟨_,rfl,p,C,dx,[],rfl,(by rw[aJ iY];exact hp),T.cl,T.nP,(by show 0<1000;decide),_,rfl,p,C,dx,_,rfl,a8,T.cl,T.nC,(by show 1<1000;decide),?_⟩;refine k l _ hl ⟨⟨dx,a8⟩,by rw[aJ iY.symm,aJ iY.symm,a8];rfl⟩ λb o e hb=>?_
 rw[aJ hb,aJ hb,aJ (c6 e hl)];exact e
theorem OW:cQ ["self","signs"] ["self","signs"] (cg Hw):=⟨rfl,rfl,rfl, ⋯,rfl, ⋯, ⋯⟩
theorem OX(F:cA K "put" "Sheet.put" Hw f fd)(T:xK K mg C):aH P w K mg base aB 1 f fd ["self","signs"] (xJ C):=by
 refine F.cU OW (λvs H Q E h=>?_) (λcdv A outer s H vs Q E hr h=>?_)
 ·obtain⟨p,l,cu,c,x,rfl,_⟩:=h
  rfl
 obtain⟨p,l,cu,c,x,rfl,S,hz,hx,k⟩:=h;have iY:=S.ne;obtain⟨⟨dx,h1⟩,h2⟩:=id S
 refine⟨_,au (fZ (gG plainAttrs_list PySem.F.slot_list_append PySem.F.type_list_append ju (dY (a6 0) rfl) (aq (a6 1) a7)))
  (aL (vr (a6 0) (j4 B7 rfl T.len PySem.boot_len (aq (a6 1) a7)) mw)),?_⟩
 have h1':∀o,(upd H l o) p=some (.ins C dx (mK l (c:Int))):=λo=>by rw[aJ iY];exact h1
 refine⟨_,rfl,p,C,dx,_,_,rfl,h1,T.cl,T.nP,Kr _ _,.inl ⟨rfl,_,aG.of h2⟩,_,rfl,l,_,_,rfl,rfl,h2,lt_of_lt_of_le (show(cu.map λx=>V.str (tx x)).length<1000001 by rw[length_map];omega) (d4 (by omega)),?_⟩;refine⟨_,rfl,p,C,dx,_,_,rfl,h1' _,T.cl,T.nC,YC _ _,_,rfl,_,rfl,d4 (by rw[dz];omega),_,_,rfl,rfl,dx,_,h1' _,(by rw[Df];show 2<1000;decide),?_⟩;refine k _ ⟨⟨dx,?_⟩,?_⟩ λb o e n1 n2=>?_
 ·rw[a8,YD,dz]
  rfl
 ·rw[aJ iY.symm,a8,map_append]
  rfl
 ·rw[aJ n1,aJ n2]
  exact e
theorem OY:cQ ["self","margin"] ["self","margin"] (cg Hx):=⟨rfl,rfl,rfl, ⋯,rfl, ⋯, ⋯⟩
theorem OZ(F:cA K "begin_row" "Sheet.begin_row" Hx f fd)(T:xK K mg C)(G:aH P w K mg base aB 1 g gd ["self","signs"] (xJ C))(bG:Binds K gd ["self","signs"] [])(mG:Meth K C "put" g):aH P w K mg base aB 2 f fd ["self","margin"] (Dh C):=by
 refine F.cU OY (λvs H Q E h=>?_) (λcdv A outer s H vs Q E hr h=>?_)
 ·obtain⟨p,l,cu,c,m,rfl,_⟩:=h
  rfl
 obtain⟨p,l,cu,c,m,rfl,S,hz,hm,k⟩:=h;have iY:=S.ne;obtain⟨⟨dx,h1⟩,h2⟩:=id S
 refine⟨_,au (fZ (gG plainAttrs_list PySem.F.slot_list_append PySem.F.type_list_append ju (dY (a6 0) rfl) (aM aK a7)))<|
  au (pY (a6 0) ak rfl)<|
  aL (fZ (dU (a6 0) T.cl mG G hr bG .nil aU (iC (bK Tn aK (a6 1)) a7))),?_⟩
 have h1':∀o,(upd H l o) p=some (.ins C dx (mK l (c:Int))):=λo=>by rw[aJ iY];exact h1
 refine⟨_,rfl,p,C,dx,_,_,rfl,h1,T.cl,T.nP,Kr _ _,.inl ⟨rfl,_,aG.of h2⟩,l,_,_,rfl,rfl,h2,lt_of_lt_of_le (show(cu.map λx=>V.str (tx x)).length<1000001 by rw[length_map];omega) (d4 (by omega)),?_⟩;refine⟨_,rfl,p,C,dx,_,rfl,h1' _,T.cl,T.nC,(by rw[Df];show 2<1000;decide),?_⟩;rw[YD,oU];refine⟨_,rfl,p,dx,_,rfl,a8,Ku _ _ ⋯ ⋯,_,rfl,_,_,rfl,rfl,by omega,by omega,(by rw[qe,dz];simp;omega),?_⟩;rw[qe,mul_one 32 m (by omega)];have S1:jz C (upd (upd H l (.lst ((cu.map λx=>V.str (tx x))++[.str (tx [10])]))) p (.ins C dx (mK l 0))) p l (cu++[[10]]) 0:=⟨⟨dx,a8⟩,by rw[aJ iY.symm,a8,map_append];rfl⟩;refine⟨p,l,cu++[[10]],0,List.replicate m 32,rfl,S1,by simp;omega,by simp;omega,λH' S' b'=>?_⟩;refine k H' ?_ λb o e n1 n2=>b' b o (by rw[aJ n1,aJ n2];exact e) n1 n2
 have e1:(cu++[[10]])++[List.replicate m 32]=cu++[[10],List.replicate m 32]:=by simp
 have e2:0+(List.replicate m 32).length=m:=by simp
 rw[e1,e2] at S'
 exact S'
inductive Di(CB:Addr)(vs:List V)(H:Hp)(Q:VK)(E:XK):Prop
 |mk (r b a1 a2:Addr) (bits:List Int) (m:Nat) (z0:vs=[.ref r,.ref b,.int m]) (z1:H r=some (.tup [.str "choice",.ref a1,.ref a2])) (z2:H b=some (.lst (bits.map V.int))) (z3:(bits[m]? = none->E (.ref CB) none H)) (z4:(∀x,bits[m]? = some x->x=0->∀H',Same H H'->Q (.ref a1) H')) (z5:(∀x,bits[m]? = some x->x=1->∀H',Same H H'->Q (.ref a2) H')) (z6:(∀x,bits[m]? = some x->x≠0->x≠1->∀H',Same H H'->E (.ref CB) none H')):Di CB vs H Q E
inductive Kv(C:Addr)(vs:List V)(H:Hp)(Q:VK)(E':XK):Prop
 |mk (p l r:Addr) (cu:List (List Nat)) (c m:Nat) (fl:Bool) (q:Plan) (z0:vs=[.ref p,.ref r,.int m,.bl fl]) (z1:jz C H p l cu c) (z2:aZ H q r) (z3:uF q) (z4:q.grow<=1000000) (z5:cu.length<=999999) (z6:m<=1000000) (z7:∀H',jz C H' p l (cu++gR q m fl) (lN q c m fl)->But p l H H'->Q .non H'):Kv C vs H Q E'
def Ah(H:Hp)(v:V)(s:Step):Prop:=∃t a,v=.ref t/\H t=some (.tup [.ref a,.int (s.2.1:Nat),.bl s.2.2])/\aZ H s.1 a
theorem Ah.mono{H H':Hp}(h:bQ H H'){v:V}{s:Step}:Ah H v s->Ah H' v s:=λ⟨t,a,e,e1,q⟩=>⟨t,a,e,h _ _ e1,q.mono h⟩
abbrev nO(H:Hp):List V->List Step->Prop:=Paired (Ah H)
theorem nO.mono{H H':Hp}(h:bQ H H'){vs:List V}{ss:List Step}(r:nO H vs ss):nO H' vs ss:=Paired.gJ r λ_ _ e=>e.mono h
inductive Dj(vs:List V)(H:Hp)(Q:VK)(E':XK):Prop
 |mk (r:Addr) (q:Plan) (m c:Nat) (fl:Bool) (z0:vs=[.ref r,.int m,.bl fl,.int c]) (z1:aZ H q r) (z2:yG q) (z3:∀(l:Addr) (xs:List V) (H':Hp),Same H H'->H l=none->H' l=some (.lst xs)->nO H' xs (jM q m fl c)->Q (.ref l) H'):Dj vs H Q E'
theorem YF:cQ ["choice","bits","met","bit"] ["choice","bits","met"] (cg Gu):=⟨rfl,rfl,rfl, ⋯,rfl, ⋯, ⋯⟩
theorem Pl(F:cA K "side_taken" "side_taken" Gu f fd)(ml:mg "len"=none)(mC:mg "BadBits"=some (.ref CB))(hC:vL K CB):aH P w K mg base (jJ P w) 1 f fd ["choice","bits","met"] (Di CB):=by
 refine F.U1 YF (λvs H Q E h=>?_) (λcdv A outer s H vs Q E hr h=>?_)
 ·obtain⟨r,b,a1,a2,bits,m,rfl,_⟩:=h
  rfl
 obtain⟨r,b,a1,a2,bits,m,rfl,hP,hb,q1,q2,q3,q4⟩:=h;have nd:=YF.nd
 refine⟨_,au (cN (cI Rg (a6 2) (j4 pW rfl ml PySem.boot_len (aq (a6 1) a7)) (cP _)) (aL (FN Fl hC rfl rfl mC (aM aK a7))) cW)<|
  au (aO (i:=3) nd rfl (Or.inl rfl) (aF gK (a6 1) (a6 2) (λ_ _=>rfl)))<|
  au (cN (cI S9 (a6 3) (bf (aM ak (aM ak a7))) rfl) (aL (FN Fl hC rfl rfl mC (aM aK a7))) cW)<|
  aL (bx (aF aN (a6 0) (bK iQ ak (a6 3)) (λ_ _=>rfl))),?_⟩
 have hl:(bits.map V.int).length=bits.length:=length_map _;refine⟨_,rfl,_,rfl,b,_,rfl,.inl (aG.of hb),_,_,rfl,rfl,_,rfl,?_⟩;refine jH (λc=>?_) (λc=>?_)
 ·have c':(((bits.map V.int).length:Nat):Int)<=(m:Int):=of_decide_eq_true c
  rw[hl] at c'
  exact⟨aC,q1 (List.getElem?_eq_none (by omega))⟩
 have c':¬(((bits.map V.int).length:Nat):Int)<=(m:Int):=of_decide_eq_false (Bool.eq_false_iff.mpr c);rw[hl] at c'
 have hm:m<bits.length:=by omega
 have e:bits[m]? = some bits[m]:=getElem?_eq_getElem hm;have e':dN (bits.map V.int) (m:Int)=some (.int bits[m]):=gF (by rw[getElem?_map,e];rfl);refine⟨_,rfl,_,rfl,b,_,_,_,rfl,rfl,aG.of hb,e',?_⟩
 generalize bits[m]=x at e
 refine⟨_,rfl,aC,λp0 hp0=>⟨p0,_,rfl,.inr (a9.of a8),rfl,rfl,_,rfl,?_⟩⟩;have s0:=ao hp0 (.tup [.int 0,.int 1]);have hin:inV (.int x) [.int 0,.int 1]=decide (x=0\/x=1):=by
  show((0==x)||((1==x)||false))=_
  by_cases h0:x=0
  ·subst h0;rfl
  ·by_cases h1:x=1
   ·subst h1;rfl
   ·have z0:((0:Int)==x)=false:=beq_eq_false_iff_ne.mpr (Ne.symm h0)
    have z1:((1:Int)==x)=false:=beq_eq_false_iff_ne.mpr (Ne.symm h1);rw[z0,z1,decide_eq_false (by omega)];rfl
 refine jH (λc2=>?_) (λc2=>?_)
 ·have c3:(!inV (.int x) [.int 0,.int 1])=true:=c2
  rw[hin] at c3
  have c4:¬(x=0\/x=1):=by simpa using c3
  exact⟨aC,q4 x e (λz=>c4 (.inl z)) (λz=>c4 (.inr z)) _ s0⟩
 ·have c3:¬(!inV (.int x) [.int 0,.int 1])=true:=c2
  rw[hin] at c3
  have c4:x=0\/x=1:=by
   by_cases h:x=0\/x=1
   ·exact h
   ·exact absurd (by rw[decide_eq_false h];rfl) c3
  rcases c4 with c4|c4
  ·subst c4
   exact⟨_,rfl,_,rfl,_,_,rfl,rfl,r,_,_,.ref a1,rfl,rfl,a9.of (s0 _ _ hP),rfl,q2 0 e rfl _ s0⟩
  ·subst c4
   exact⟨_,rfl,_,rfl,_,_,rfl,rfl,r,_,_,.ref a2,rfl,rfl,a9.of (s0 _ _ hP),rfl,q3 1 e rfl _ s0⟩
theorem Pm (h:uF q):jP q=true:=by cases q<;>first|rfl|exact h.elim
theorem Pp:cQ ["sheet","plan","margin","in_one_row"] ["sheet","plan","margin","in_one_row"] (cg Gv):=⟨rfl,rfl,rfl, ⋯,rfl, ⋯, ⋯⟩
theorem Pt{fp fr fs:Addr}{pd rd sd:FuncData}(F:cA K "write_leaf" "write_leaf" Gv f fd)(T:xK K mg C)(GP:aH P w K mg base aB 1 fp pd ["self","signs"] (xJ C))(bP:Binds K pd ["self","signs"] [])(mP:Meth K C "put" fp)
  (GR:aH P w K mg base aB 2 fr rd ["self","margin"] (Dh C)) (bR:Binds K rd ["self","margin"] []) (mR:Meth K C "begin_row" fr)
  (GS:aH P w K mg base aB 1 fs sd ["leaf"] zc) (bS:Binds K sd ["leaf"] []) (kS:keepIn K (.ref fs)=true) (mS:mg "signs_in_one_row"=some (.ref fs)):aH P w K mg base aB 3 f fd ["sheet","plan","margin","in_one_row"] (Kv C):=by
 refine F.cU Pp (λvs H Q E h=>?_) (λcdv A outer s H vs Q E hr h=>?_)
 ·obtain⟨p,l,r,cu,c,m,fl,q,rfl,_⟩:=h
  rfl
 obtain⟨p,l,r,cu,c,m,fl,q,rfl,S,hP,hq,hg,hz,hm,k⟩:=h;have hr1:cZ 1 _:=hr.mono (by decide)
 refine⟨_,aL (cN (PW.vN (vP (cI d8 (aF aN (a6 1) ak (λ_ _=>rfl)) aK (cP _)) (vO (Bc (a6 3)))))
   (aL (fZ (dU (a6 0) T.cl mP GP hr1 bP .nil aU (dw (c9 GS hr1 rfl mS kS bS .nil aU (aq (a6 1) a7)) a7))))
   (aL (fZ (dU (a6 0) T.cl mR GR hr bR .nil aU (aq (a6 2) a7))))),?_⟩
 obtain⟨⟨dx,h1⟩,h2⟩:=id S;obtain⟨xs,hx⟩:=wz hP;refine⟨_,rfl,r,_,_,.str (gP q),rfl,rfl,a9.of hx,(by show dN (V.str (gP q)::xs) ((0:Nat):Int)=_;exact gF rfl),rfl,_,rfl,?_⟩;have put:(p8 q).length<=1000000->gR q m fl=[p8 q]->lN q c m fl=c+(p8 q).length->Et C "put" (xJ C) [] E0 (jB 0) (iz (Rv zc [] E0 (iz (jB 1) oK)) oK) [some (V.ref p),some (V.ref r),some (V.int (m:Int)),some (V.bl fl)] H λ_ H2=>Q .non H2:=λhl e1 e2=>by
  refine⟨_,rfl,p,dx,_,rfl,h1,Ku _ _ ⋯ ⋯,_,rfl,r,q,rfl,hP,Pm hq,p,l,cu,c,p8 q,rfl,S,by omega,hl,λH' S' b'=>k H' ?_ b'⟩;rw[e1,e2];exact S'
 have row:gR q m fl=[[10],List.replicate m 32]->lN q c m fl=m->Et C "begin_row" (Dh C) [] E0 (jB 0) (iz (jB 2) oK) [some (V.ref p),some (V.ref r),some (V.int (m:Int)),some (V.bl fl)] H λ_ H2=>Q .non H2:=λe1 e2=>by
  refine⟨_,rfl,p,dx,_,rfl,h1,Ku _ _ ⋯ ⋯,_,rfl,p,l,cu,c,m,rfl,S,hz,hm,λH' S' b'=>k H' ?_ b'⟩;rw[e1,e2];exact S'
 rw[Iu];cases q with
 |text x=>exact fu (fu (put hg rfl rfl))
 |line=>
  refine gM ⟨_,rfl,_,rfl,?_⟩;cases fl with
  |true=>exact fu (put (by decide) rfl rfl)
  |false=>exact gM (row rfl rfl)
 |cut=>
  refine gM ⟨_,rfl,_,rfl,?_⟩;cases fl with
  |true=>exact fu (put (by decide) rfl rfl)
  |false=>exact gM (row rfl rfl)
 |_=>exact hq.elim
theorem YG:cQ ["plan","margin","in_one_row","column","kind"] ["plan","margin","in_one_row","column"] (cg Gw):=⟨rfl,rfl,rfl, ⋯,rfl, ⋯, ⋯⟩
theorem PD(F:cA K "next_steps" "next_steps" Gw f fd):aH P w K mg base aB 1 f fd ["plan","margin","in_one_row","column"] Dj:=by
 refine F.cU YG (λvs H Q E h=>?_) (λcdv A outer s H vs Q E hr h=>?_)
 ·obtain⟨r,q,m,c,fl,rfl,_⟩:=h
  rfl
 obtain⟨r,q,m,c,fl,rfl,hP,hq,k⟩:=h;have nd:=YG.nd
 refine⟨_,au (aO (i:=4) nd rfl (Or.inl rfl) (aF aN (a6 0) ak (λ_ _=>rfl)))<|
  au (cN (cI d8 (a6 4) aK (cP _)) (aL (bx (cX (d0 (bf (cF (aF aN (a6 0) ak (λ_ _=>rfl)) (iC (bK iQ (a6 1) (aF aN (a6 0) ak (λ_ _=>rfl))) (aq (a6 2) a7)))) a7)))) cW)<|
  au (cN (cI d8 (a6 4) aK (cP _)) (aL (bx (cX (d0 (bf (cF (aF aN (a6 0) ak (λ_ _=>rfl)) (aq (a6 3) (aq (a6 2) a7)))) a7)))) cW)<|
  au (cN (cI d8 (a6 4) aK (cP _)) (aL (bx (cX (d0 (bf (cF (aF aN (a6 0) ak (λ_ _=>rfl)) (aq (a6 1) (aM Bb a7)))) a7)))) cW)<|
  aL (bx (cX (d0 (bf (cF (aF aN (a6 0) ak (λ_ _=>rfl)) (aq (a6 1) (aq (a6 2) a7)))) (d0 (bf (cF (aF aN (a6 0) ak (λ_ _=>rfl)) (aq (a6 1) (aq (a6 2) a7)))) a7)))),?_⟩
 cases q with
 |nest j p1=>
  obtain⟨a1,hP,fX⟩:=hP;refine⟨_,rfl,r,_,_,_,rfl,rfl,a9.of hP,rfl,?_⟩;refine⟨_,rfl,rfl,_,rfl,cG ⋯ ?_⟩;refine⟨_,rfl,r,_,_,_,rfl,rfl,a9.of hP,rfl,_,rfl,_,rfl,r,_,_,_,rfl,rfl,a9.of hP,rfl,_,_,rfl,rfl,_,rfl,aC,λt ht=>⟨aC,λl hl=>?_⟩⟩;have s1:=ao ht (.tup [.ref a1,.int ((m:Int)+(j:Int)),.bl fl]);have s2:=ao hl (.lst [.ref t]);exact k l _ _ (s1.trans s2) (s1.free hl) a8 (.cons ⟨t,a1,rfl,s2 _ _ a8,fX.mono (.of (s1.trans s2))⟩ .nil)
 |align p1=>
  obtain⟨a1,hP,fX⟩:=hP;refine⟨_,rfl,r,_,_,_,rfl,rfl,a9.of hP,rfl,?_⟩;refine⟨_,rfl,rfl,_,rfl,aP ⋯ ?_⟩;refine⟨_,rfl,rfl,_,rfl,cG ⋯ ?_⟩;refine⟨_,rfl,r,_,_,_,rfl,rfl,a9.of hP,rfl,_,rfl,_,rfl,aC,λt ht=>⟨aC,λl hl=>?_⟩⟩;have s1:=ao ht (.tup [.ref a1,.int (c:Int),.bl fl]);have s2:=ao hl (.lst [.ref t]);exact k l _ _ (s1.trans s2) (s1.free hl) a8 (.cons ⟨t,a1,rfl,s2 _ _ a8,fX.mono (.of (s1.trans s2))⟩ .nil)
 |flat p1=>
  obtain⟨a1,hP,fX⟩:=hP;refine⟨_,rfl,r,_,_,_,rfl,rfl,a9.of hP,rfl,?_⟩;refine⟨_,rfl,rfl,_,rfl,aP ⋯ ?_⟩;refine⟨_,rfl,rfl,_,rfl,aP ⋯ ?_⟩;refine⟨_,rfl,rfl,_,rfl,cG ⋯ ?_⟩;refine⟨_,rfl,r,_,_,_,rfl,rfl,a9.of hP,rfl,_,rfl,aC,λt ht=>⟨aC,λl hl=>?_⟩⟩;have s1:=ao ht (.tup [.ref a1,.int (m:Int),.bl true]);have s2:=ao hl (.lst [.ref t]);exact k l _ _ (s1.trans s2) (s1.free hl) a8 (.cons ⟨t,a1,rfl,s2 _ _ a8,fX.mono (.of (s1.trans s2))⟩ .nil)
 |beside p1 p2=>
  obtain⟨a1,a2,hP,fX,hP2⟩:=hP;refine⟨_,rfl,r,_,_,_,rfl,rfl,a9.of hP,rfl,?_⟩;refine⟨_,rfl,rfl,_,rfl,aP ⋯ ?_⟩;refine⟨_,rfl,rfl,_,rfl,aP ⋯ ?_⟩;refine⟨_,rfl,rfl,_,rfl,aP ⋯ ?_⟩;refine⟨_,rfl,r,_,_,_,rfl,rfl,a9.of hP,rfl,_,rfl,_,rfl,aC,λt ht=>?_⟩;have s1:=ao ht (.tup [.ref a2,.int (m:Int),.bl fl]);refine⟨_,rfl,r,_,_,_,rfl,rfl,a9.of (s1 _ _ hP),rfl,_,rfl,_,rfl,aC,λt' ht'=>⟨aC,λl hl=>?_⟩⟩;have s2:=ao ht' (.tup [.ref a1,.int (m:Int),.bl fl]);have s3:=ao hl (.lst [.ref t,.ref t']);exact k l _ _ (s1.trans (s2.trans s3)) ((s1.trans s2).free hl) a8 (.cons ⟨t,a2,rfl,s3 _ _ (s2 _ _ a8),hP2.mono (.of (s1.trans (s2.trans s3)))⟩ (.cons ⟨t',a1,rfl,s3 _ _ a8,fX.mono (.of (s1.trans (s2.trans s3)))⟩ .nil))
 |_=>exact hq.elim
theorem But.tups{p:Addr} {cu:List (List Nat)} (b:But p l H H')(S:jz C H p l cu c):bQ H H':=λa xs e=>by
 obtain⟨⟨dx,h1⟩,h2⟩:=S;exact b a _ e (cR e h1 (by intro z;cases z)) (cR e h2 (by intro z;cases z))
theorem YH:∀cu:List (List Nat),Txt.join (Str.ofString "") (cu.map tx)=tx cu.flatten:=λcu=>by
 show Builtin.Str.glued _ _=_;rw[StrLaws.glued_eq_join,qg]
 induction cu with
 |nil=>rfl
 |cons a r ih=>
  cases r with
  |nil=>simp[Str.join]
  |cons b r=>
   show tx a++tx []++Str.join (tx []) ((b::r).map tx)=_;rw[ih,j8,j8];simp
theorem YJ:∀cu:List (List Nat),((cu.map tx).map (·.length)).sum=cu.flatten.length
 |[]=>rfl
 |a::r=>by
  rw[map_cons,map_cons,sum_cons,YJ r,dz,flatten_cons,length_append]
theorem PF(q:Plan)(m:Nat)(f:Bool)(c:Nat):(jM q m f c).length<=2:=by
 cases q<;>simp[jM]
inductive Kw(CB:Addr)(vs:List V)(H:Hp)(Q:VK)(E:XK):Prop
 |mk (r b:Addr) (p:Plan) (bits:List Int) (z0:vs=[.ref r,.ref b]) (z1:aZ H p r) (z2:H b=some (.lst (bits.map V.int))) (z3:p.Flat) (z4:p.size*(p.grow+1)<=16000000) (z5:p.size<=100000) (z6:p.grow<=100000) (z7:(∀t,lay p bits [] 0 false=some (t,[])->∀H',Same H H'->Q (.str (tx t)) H')) (z8:((∀t,lay p bits [] 0 false≠some (t,[]))->∀H',Same H H'->E (.ref CB) none H')):Kw CB vs H Q E
structure Turns(C r b sh l wl:Addr)(p:Plan)(bits:List Int)(H:Hp)(n:Nat)(σ:St)(H':Hp)(met:Nat)(st:List Step)(xs:List V)(cu:List (List Nat)):Prop where
 uO:∃v5 v6 v7 v8:Option V,σ=[some (.ref r),some (.ref b),some (.ref sh),some (.int (met:Nat)),some (.ref wl),v5,v6,v7,v8]
 YK:n=zl3 st
 same:Same H H'
 sheet:jz C H' sh l cu (col cu.flatten)
 wait:H' wl=some (.lst xs)
 steps:nO H' xs st.reverse
 PH:met<=bits.length
 all:gA st (bits.drop met) cu.flatten=lay p bits [] 0 false
 fit:rM p.grow st
 cols:col cu.flatten+jm st<=p.grow
 len:cu.flatten.length+zl3 st*(p.grow+1)<=p.size*(p.grow+1)
 cnt:cu.length+2*zl3 st<=2*p.size
theorem YL:cQ ["plan","bits","sheet","met","waiting","step","part","margin","in_one_row"] ["plan","bits"] (cg Gx):=⟨rfl,rfl,rfl, ⋯,rfl, ⋯, ⋯⟩
theorem PP{fI:Addr} (F:cA K "laid" "laid" Gx f fd)(T:xK K mg C)(M:Mk K C fI)(PQ:mg "Sheet"=some (.ref C))(mC:mg "BadBits"=some (.ref CB))(hC:vL K CB)
  (GI:aH P w K mg base aB 1 fI iD ["self"] (Dg C)) (bI:Binds K iD ["self"] [])
  (GS:aH P w K mg base (jJ P w) 1 fS sD ["choice","bits","met"] (Di CB)) (bS:Binds K sD ["choice","bits","met"] []) (kS:keepIn K (.ref fS)=true) (mS:mg "side_taken"=some (.ref fS))
  (GW:aH P w K mg base aB 1 fW wD ["plan"] BP) (bW:Binds K wD ["plan"] []) (kW:keepIn K (.ref fW)=true) (mW:mg "is_leaf"=some (.ref fW))
  (GN:aH P w K mg base aB 1 fN nD ["plan","margin","in_one_row","column"] Dj) (bN:Binds K nD ["plan","margin","in_one_row","column"] []) (kN:keepIn K (.ref fN)=true) (mN:mg "next_steps"=some (.ref fN))
  (GL:aH P w K mg base aB 3 fL lD ["sheet","plan","margin","in_one_row"] (Kv C)) (bL:Binds K lD ["sheet","plan","margin","in_one_row"] []) (kL:keepIn K (.ref fL)=true) (mL:mg "write_leaf"=some (.ref fL)):
  aH P w K mg base (jJ P w) 4 f fd ["plan","bits"] (Kw CB):=by
 refine F.U1 YL (λvs H Q E h=>?_) (λcdv A outer s H vs Q E hr h=>?_)
 ·obtain⟨r,b,p,bits,rfl,_⟩:=h
  rfl
 obtain⟨r,b,p,bits,rfl,hP,hb,hF,hz,hz1,hz2,q1,q2⟩:=h;have nd:=YL.nd;have hr1:cZ 1 _:=hr.mono (by decide);have hr2:cZ 2 _:=hr.mono (by decide)
 refine⟨_,au (aO (i:=2) nd rfl (Or.inl rfl) (TX M GI hr2 rfl PQ bI .nil aU))<|
  au (aO (i:=3) nd rfl (Or.inl rfl) ak)<|
  au (aO (i:=4) nd rfl (Or.inl rfl) (cX (d0 (bf (aq (a6 0) (aM ak (aM Bb a7)))) a7)))<|
  au (nT PassesOwn.leaving (nY (a6 4) (λ_=>rfl)) (
   au (aO (i:=5) nd rfl (Or.inl rfl) (uE plainAttrs_list slot_list_pop type_list_pop uq (a6 4)))<|
   au (aO (i:=6) nd rfl (Or.inl rfl) (aF aN (a6 5) ak (λ_ _=>rfl)))<|
   au (aO (i:=7) nd rfl (Or.inl rfl) (aF aN (a6 5) ak (λ_ _=>rfl)))<|
   au (aO (i:=8) nd rfl (Or.inl rfl) (aF aN (a6 5) ak (λ_ _=>rfl)))<|
   aL (cN (cI d8 (aF aN (a6 6) ak (λ_ _=>rfl)) aK (cP _))
    (au (fZ (gG plainAttrs_list PySem.F.slot_list_append PySem.F.type_list_append ju (a6 4) (d0 (bf (dw (c9 GS hr1 rfl mS kS bS .nil (sM λ_ _ _ h=>h) (aq (a6 6) (aq (a6 1) (aq (a6 3) a7)))) (aq (a6 7) (aq (a6 8) a7)))) a7)))
     (aL (Bd (i:=3) nd rfl (Or.inl rfl) ak QX)))
    (aL (cN (Bc (c9 GW hr1 rfl mW kW bW .nil aU (aq (a6 6) a7)))
     (aL (fZ (c9 GL hr rfl mL kL bL .nil aU (aq (a6 2) (aq (a6 6) (aq (a6 7) (aq (a6 8) a7)))))))
     (aL (fZ (gG plainAttrs_list slot_list_extend type_list_extend qZ (a6 4) (dw (c9 GN hr1 rfl mN kN bN .nil aU (aq (a6 6) (aq (a6 7) (aq (a6 8) (FP (dY (a6 2) rfl) a7))))) a7)))))))))<|
  au (cN (cI vD (a6 3) (j4 pW rfl T.len PySem.boot_len (aq (a6 1) a7)) (cP _)) (aL (FN Fl hC rfl rfl mC (aM aK a7))) cW)<|
  aL (bx (gG plainAttrs_str PySem.F.slot_str_join PySem.F.type_str_join sK aK (FP (dY (a6 2) rfl) a7))),?_⟩
 intro sh dx nsh ndx nex;refine⟨sh,dx,rfl,a8,λl H1 PR S1 kp=>⟨rfl,?_⟩⟩;have s0:Same H (upd (upd H dx (.own sh)) sh (.ins C dx [])):=λb o e=>by
  rw[aJ (c6 e nsh),aJ (c6 e ndx)];exact e
 have s1:Same H H1:=λb o e=>kp b o (s0 b o e) (c6 e nsh)
 have nl:H l=none:=s0.free PR;refine⟨_,rfl,aC,λt0 ht0=>⟨aC,λwl hwl=>?_⟩⟩;have s2:=ao ht0 (.tup [.ref r,.int 0,.bl false]);have s3:=ao hwl (.lst [.ref t0]);have Dk:H wl=none:=(s1.trans s2).free hwl;obtain⟨⟨o8,PU⟩,hl1⟩:=id S1;have Dl:wl≠sh:=λz=>by rw[z,s2 _ _ PU] at hwl;cases hwl
 have Dm:wl≠l:=λz=>by rw[z,s2 _ _ hl1] at hwl;cases hwl
 have bwl:b≠wl:=c6 hb Dk;refine⟨λn σ H'=>∃met st xs cu,Turns C r b sh l wl p bits H n σ H' met st xs cu,⟨zl3 [(p,0,false)],0,[(p,0,false)],[.ref t0],[], ?init⟩, ?turn⟩
 case init=>
  refine⟨⟨_,_,_,_,rfl⟩,rfl,s1.trans (s2.trans s3),(S1.mono s2).mono s3,a8,.cons ⟨t0,r,rfl,s3 _ _ a8,hP.mono (.of (s1.trans (s2.trans s3)))⟩ .nil,zero_le _,wy p bits [],⟨?_,hF,trivial⟩,?_,?_,?_⟩
  ·simp[jm]
  ·simp[jm,col]
  ·simp[zl3]
  ·simp[zl3]
 case turn=>
  rintro n σ H' ⟨met,st,xs,cu,W⟩
  obtain⟨v5,v6,v7,v8,rfl⟩:=W.uO;obtain⟨⟨x8,hsh⟩,hpl⟩:=id W.sheet;refine⟨_,rfl,_,.inl ⟨xs,aG.of W.wait,rfl⟩,?_⟩;cases st with
  |nil=>
   have ex:xs=[]:=by have:=W.steps;cases this;rfl
   subst ex;have hall:some (cu.flatten,bits.drop met)=lay p bits [] 0 false:=W.all;refine aP (by simp) ?_;have hlen:(bits.map V.int).length=bits.length:=length_map _;refine⟨_,rfl,_,rfl,b,_,rfl,.inl (aG.of (W.same _ _ hb)),_,_,rfl,rfl,_,rfl,?_⟩;refine jH (λc=>?_) (λc=>?_)
   ·have c':(met:Int)<(((bits.map V.int).length:Nat):Int):=of_decide_eq_true c
    rw[hlen] at c'
    refine⟨aC,q2 (λt ht=>?_) H' W.same⟩;rw[<-hall] at ht
    have e:bits.drop met=[]:=congrArg Prod.snd (Option.some.inj ht);have e2:=congrArg List.length e;rw[length_drop] at e2
    simp at e2
    omega
   ·have c':¬(met:Int)<(((bits.map V.int).length:Nat):Int):=of_decide_eq_false (Bool.eq_false_iff.mpr c)
    rw[hlen] at c'
    have e:bits.drop met=[]:=List.drop_eq_nil_of_le (by omega);rw[e] at hall
    have hlen2:=W.len;refine⟨rfl,_,rfl,sh,C,x8,_,_,rfl,hsh,T.cl,T.nP,Kr _ _,_,l,cu.map tx,rfl,rfl,aG.of (by rw[hpl,map_map];rfl),?_,?_⟩
    ·rw[YJ,qg,dz]
     simp;have:cu.flatten.length<=16000000:=by omega
     simpa using (by omega:cu.flatten.length<=16777216)
    ·rw[YH]
     exact q1 _ hall.symm H' W.same
  |cons sp rst=>
   obtain⟨q,m,fl⟩:=sp;obtain⟨ys,v,ex,hys,tt,a,rfl,htt,hq⟩:∃ys v,xs=ys++[v]/\nO H' ys rst.reverse/\Ah H' v (q,m,fl):=by
    have z:=W.steps;rw[reverse_cons] at z
    exact rR z
   subst ex;have hfit:=W.fit;have PV:=W.cols;have YM:=W.len;have PY:=W.cnt;have hmet:=W.PH;have hwk:zl3 ((q,m,fl)::rst)=q.size+zl3 rst:=rfl;have hps:=zl7 q;refine cG (by simp) ?_;have u1:bQ H' (upd H' wl (.lst ys)):=dX W.wait;have g1:Same H (upd H' wl (.lst ys)):=λc o e=>by rw[aJ (c6 e Dk)];exact W.same _ _ e
   have w1:(upd H' wl (.lst ys)) wl=some (.lst ys):=a8;have S2:jz C (upd H' wl (.lst ys)) sh l cu (col cu.flatten):=⟨⟨x8,by rw[aJ Dl.symm];exact hsh⟩,by rw[aJ Dm.symm];exact hpl⟩;have Ky:=u1 _ _ htt;have hq1:=hq.mono u1;have sI:=nO.mono u1 hys;have hb1:=g1 _ _ hb;have zj:(ys++[V.ref tt])[(ys++[V.ref tt]).length - 1]? = some (.ref tt):=by simp
   refine⟨λσ' fQ=>∃n',n'<n/\∃PZ st' xs' Qb,Turns C r b sh l wl p bits H n' σ' fQ PZ st' xs' Qb,λσ' fQ z=>z,?_⟩;refine⟨_,rfl,.inl ⟨rfl,_,aG.of W.wait⟩,wl,_,_,rfl,rfl,W.wait,zj,?_⟩;rw[dropLast_concat]
   generalize upd H' wl (.lst ys)=H2 at*
   refine⟨_,rfl,tt,_,_,_,rfl,rfl,a9.of Ky,rfl,_,rfl,tt,_,_,_,rfl,rfl,a9.of Ky,rfl,_,rfl,tt,_,_,_,rfl,rfl,a9.of Ky,rfl,?_⟩;have zh6:ys.length<=100000:=by
    have e1:=lQ sI;have e2:=Ua rst;rw[length_reverse] at e1
    have e3:zl3 rst*(p.grow+1)<=p.size*(p.grow+1):=by rw[hwk,add_mul] at YM;omega
    have e4:=Nat.le_of_mul_le_mul_right e3 (by omega);omega
   by_cases hch:∃p1 p2,q=.choice p1 p2
   ·obtain⟨p1,p2,rfl⟩:=hch
    obtain⟨a1,a2,hq0,hp1,hp2⟩:=hq1;have hall:=W.all;have take:∀(pj:Plan) (aj:Addr) (H3:Hp) (t:Addr),aZ H2 pj aj->Same H2 H3->H3 t=none->pj.size<(Plan.choice p1 p2).size->pj.grow<=(Plan.choice p1 p2).grow->pj.Flat->met+1<=bits.length->
      gA ((pj,m,fl)::rst) (bits.drop (met+1)) cu.flatten=lay p bits [] 0 false->
      Turns C r b sh l wl p bits H (zl3 ((pj,m,fl)::rst)) [some (.ref r),some (.ref b),some (.ref sh),some (.int ((met+1:Nat):Int)),some (.ref wl),some (.ref tt),some (.ref a),some (.int (m:Int)),some (.bl fl)]
       (upd (upd H3 t (.tup [.ref aj,.int (m:Int),.bl fl])) wl (.lst (ys++[.ref t]))) (met+1) ((pj,m,fl)::rst) (ys++[.ref t]) cu:=λpj aj H3 t hj s3 jw hsz hgr hfl Qr ha=>by
     have s4:=ao jw (.tup [.ref aj,.int (m:Int),.bl fl]);have s5:=s3.trans s4;have u5:bQ (upd H3 t (.tup [.ref aj,.int (m:Int),.bl fl])) (upd (upd H3 t (.tup [.ref aj,.int (m:Int),.bl fl])) wl (.lst (ys++[.ref t]))):=dX (s5 _ _ w1);have u6:=(bQ.of s5).trans u5;obtain⟨f1,f2,f3⟩:=hfit;obtain⟨⟨dy,k1⟩,k2⟩:=S2;have Kz:zl3 ((pj,m,fl)::rst)=pj.size+zl3 rst:=rfl;have jj:jm ((pj,m,fl)::rst)=pj.grow+jm rst:=rfl;have hs0:jm ((Plan.choice p1 p2,m,fl)::rst)=(Plan.choice p1 p2).grow+jm rst:=rfl;have hle:zl3 ((pj,m,fl)::rst)<=zl3 ((Plan.choice p1 p2,m,fl)::rst):=by rw[Kz,hwk];omega
     have hmul:=mul_le_mul_right (p.grow+1) hle;refine⟨⟨_,_,_,_,rfl⟩,rfl,λc o e=>by rw[aJ (c6 e Dk)];exact s5 _ _ (g1 _ _ e),⟨⟨dy,by rw[aJ Dl.symm];exact s5 _ _ k1⟩,by rw[aJ Dm.symm];exact s5 _ _ k2⟩,a8,?_,Qr,ha,⟨by omega,hfl,f3⟩,by omega,by omega,by omega⟩;rw[reverse_cons];exact iU (nO.mono u6 sI) (.cons ⟨t,aj,rfl,u5 _ _ a8,hj.mono u6⟩ .nil)
    have hsz1:p1.size<(Plan.choice p1 p2).size:=by have:=zl7 p2;simp only[Plan.size];omega
    have hsz2:p2.size<(Plan.choice p1 p2).size:=by have:=zl7 p1;simp only[Plan.size];omega
    have QN:p1.grow<=(Plan.choice p1 p2).grow:=by simp only[Plan.grow];omega
    have QO:p2.grow<=(Plan.choice p1 p2).grow:=by simp only[Plan.grow];omega
    have YQ:p1.Flat/\p2.Flat:=hfit.2.1;have KC:∀x,bits[met]? = some x->bits.drop met=x::bits.drop (met+1)/\met+1<=bits.length:=λx e=>by
     obtain⟨h1,h2⟩:=List.getElem?_eq_some_iff.mp e;exact⟨by rw[drop_eq_getElem_cons h1,h2],h1⟩
    have hwn:n=zl3 ((Plan.choice p1 p2,m,fl)::rst):=W.YK;have YS:∀pj:Plan,pj.size<(Plan.choice p1 p2).size->zl3 ((pj,m,fl)::rst)<n:=λpj h=>by
     have Kz:zl3 ((pj,m,fl)::rst)=pj.size+zl3 rst:=rfl;rw[hwn,Kz,hwk];omega
    refine⟨_,rfl,a,_,_,_,rfl,rfl,a9.of hq0,rfl,?_⟩;refine⟨rfl,_,rfl,cG ⋯ ?_⟩;refine⟨_,rfl,.inl ⟨rfl,_,aG.of w1⟩,_,rfl,_,rfl,_,rfl,a,b,a1,a2,bits,met,rfl,hq0,hb1,λe=>?_,λx e ex H3 s3=>?_,λx e ex H3 s3=>?_,λx e e0 e1 H3 s3=>?_⟩
    ·refine q2 (λt ht=>?_) H2 g1
     have e2:bits.drop met=[]:=List.drop_eq_nil_of_le (List.getElem?_eq_none_iff.mp e);rw[e2,wv] at hall
     rw[<-hall] at ht
     cases ht
    ·subst ex
     obtain⟨d1,d2⟩:=KC _ e;rw[d1,wo] at hall
     refine⟨_,rfl,_,rfl,aC,λt ht=>⟨wl,ys,_,rfl,rfl,ao ht _ _ _ (s3 _ _ w1),lt_of_lt_of_le (show ys.length<100001 by omega) (d4 (by omega)),?_⟩⟩;exact⟨_,rfl,_,_,rfl,rfl,_,YS p1 hsz1,_,_,_,_,take p1 a1 H3 t hp1 s3 ht hsz1 QN YQ.1 d2 hall⟩
    ·subst ex
     obtain⟨d1,d2⟩:=KC _ e;rw[d1,wt] at hall
     refine⟨_,rfl,_,rfl,aC,λt ht=>⟨wl,ys,_,rfl,rfl,ao ht _ _ _ (s3 _ _ w1),lt_of_lt_of_le (show ys.length<100001 by omega) (d4 (by omega)),?_⟩⟩;exact⟨_,rfl,_,_,rfl,rfl,_,YS p2 hsz2,_,_,_,_,take p2 a2 H3 t hp2 s3 ht hsz2 QO YQ.2 d2 hall⟩
    ·refine q2 (λt ht=>?_) H3 (g1.trans s3)
     rw[(KC _ e).1,wx _ _ _ _ _ _ _ _ e0 e1] at hall
     rw[<-hall] at ht
     cases ht
   have hcase:(yG q/\jP q=false)\/(uF q/\jP q=true):=by
    cases q with
    |choice p1 p2=>exact absurd ⟨p1,p2,rfl⟩ hch
    |text x=>exact .inr ⟨trivial,rfl⟩
    |line=>exact .inr ⟨trivial,rfl⟩
    |cut=>exact .inr ⟨trivial,rfl⟩
    |nest j p1=>exact .inl ⟨trivial,rfl⟩
    |align p1=>exact .inl ⟨trivial,rfl⟩
    |flat p1=>exact .inl ⟨trivial,rfl⟩
    |beside p1 p2=>exact .inl ⟨trivial,rfl⟩
   obtain⟨zs,hq0⟩:=wz hq1;have hne:¬(V.str (gP q)=V.str "choice"):=by
    cases q with
    |choice p1 p2=>exact absurd ⟨p1,p2,rfl⟩ hch
    |_=>simp only[gP];decide +kernel
   refine⟨_,rfl,a,_,_,.str (gP q),rfl,rfl,a9.of hq0,(by show dN (V.str (gP q)::zs) ((0:Nat):Int)=_;exact gF rfl),?_⟩;refine⟨rfl,_,rfl,aP (by rw[decide_eq_false hne];decide) ?_⟩;refine⟨_,rfl,a,q,rfl,hq1,_,rfl,?_⟩;have s3:Same H2 H2:=Same.refl H2;have w3:=s3 _ _ w1;have S3:=S2.mono s3;have YT:=hq1.mono (.of s3);have BW:=nO.mono (.of s3) sI;have g3:=g1.trans s3;have hall:=W.all;have hwn:n=zl3 ((q,m,fl)::rst):=W.YK;obtain⟨⟨dy,k1⟩,k2⟩:=id S3;rcases hcase with⟨hm,hkd⟩|⟨hm,hkd⟩
   ·rw[hkd]
    refine gM ?_;refine⟨_,rfl,.inl ⟨rfl,_,aG.of w3⟩,_,rfl,_,rfl,_,rfl,_,rfl,sh,C,dy,_,_,rfl,k1,T.cl,T.nC,YC _ _,a,q,m,col cu.flatten,fl,rfl,YT,hm,λl2 xn H4 s4 n2 h2 hst=>?_⟩;have e2:=lQ hst;have e3:=PF q m fl (col cu.flatten);refine⟨wl,l2,ys,xn,rfl,rfl,s4 _ _ w3,h2,d4 (by omega),?_⟩;have u5:bQ H4 (upd H4 wl (.lst (ys++xn))):=dX (s4 _ _ w3);obtain⟨f1,f2⟩:=xl hm m fl (col cu.flatten) p.grow rst hfit PV;have hlt:=xk hm m fl (col cu.flatten) rst;have hmul:=mul_le_mul_right (p.grow+1) (le_of_lt hlt);refine⟨_,by rw[hwn];exact hlt,met,_,ys++xn,cu,⟨_,_,_,_,rfl⟩,rfl,λc o e=>by rw[aJ (c6 e Dk)];exact s4 _ _ (g3 _ _ e),⟨⟨dy,by rw[aJ Dl.symm];exact s4 _ _ k1⟩,by rw[aJ Dm.symm];exact s4 _ _ k2⟩,a8,?_,hmet,?_,f1,f2,by omega,by omega⟩
    ·rw[reverse_append,reverse_reverse]
     exact iU (nO.mono ((bQ.of s4).trans u5) BW) (nO.mono u5 hst)
    ·rw[<-hall,xi hm]
   ·rw[hkd]
    refine fu ?_;obtain⟨f1,f2,f3⟩:=hfit;have hs0:jm ((q,m,fl)::rst)=q.grow+jm rst:=rfl;refine⟨_,rfl,_,rfl,_,rfl,_,rfl,sh,l,a,cu,col cu.flatten,m,fl,q,rfl,S3,YT,hm,by omega,by omega,by omega,λH4 S4 bt=>?_⟩;have ef:(cu++gR q m fl).flatten=cu.flatten++(gR q m fl).flatten:=List.flatten_append;have ec:=xc hm f2 m fl cu.flatten;have el:=zm5 hm m fl;have en:=xf q m fl;have hmul:(q.size+zl3 rst)*(p.grow+1)=q.size*(p.grow+1)+zl3 rst*(p.grow+1):=add_mul _ _ _;have zh7:1*(p.grow+1)<=q.size*(p.grow+1):=mul_le_mul_right _ hps;rw[hwk] at YM PY
    refine⟨_,(by rw[hwn,hwk];omega),met,rst,ys,cu++gR q m fl,⟨_,_,_,_,rfl⟩,rfl,λc o e=>bt _ _ (g3 _ _ e) (c6 e nsh) (c6 e nl),?_,bt _ _ w3 Dl Dm,nO.mono (bt.tups S3) BW,hmet,?_,f3,?_,?_,?_⟩
    ·rw[ef,ec];exact S4
    ·rw[ef,<-xb hm];exact hall
    ·rw[ef,ec];exact xh hm _ _ _ _ _ (by omega) (by omega)
    ·rw[ef,length_append];omega
    ·rw[length_append];omega
theorem YW(n:Nat):Str.ofString (toString (n:Int))=tx (lR n):=by
 have e:toString (n:Int)=String.ofList (Nat.toDigits 10 n):=rfl;rw[e,Str.ofString_eq_toList];unfold tx lR;simp
theorem YX (h:n<100000000000):((n:Nat):Int).natAbs.log2<1920:=by
 rw[Int.natAbs_natCast]
 by_cases h0:n=0
 ·subst h0;decide
 ·have:=(Nat.log2_lt h0).mpr (show n<2 ^ 1920 from lt_of_lt_of_le h ⋯)
  exact this
theorem zm6(y:List Nat)(h:y.length<=1000):JoinOk (Str.ofString "") [tx y]=true/\Txt.join (Str.ofString "") [tx y]=tx y:=by
 refine⟨?_,?_⟩
 ·unfold JoinOk
  have e:([tx y]:List Str).toArray.foldl (· + ·.length+(Str.ofString "").length) 0=y.length:=by
   show 0+(tx y).length+(Str.ofString "").length=_
   rw[dz,qg,dz];simp
  rw[e];unfold Builtin.Str.tooLong;have:sizeLine=16777216:=sizeLine_eq;simp;omega
 ·have:=YH [y]
  simpa [qg] using this
theorem YZ:cQ ["number","block","blocks"] ["number"] (cg GK):=⟨rfl,rfl,rfl, ⋯,rfl, ⋯, ⋯⟩
theorem QP(F:cA K "figures_of" "figures_of" GK f fd)(ms:mg "str"=none)(mR:mg "reversed"=none):aH P w K mg base aB 1 f fd ["number"] D5:=by
 refine F.cU YZ (λvs H Q E h=>?_) (λcdv A outer s H vs Q E hr h=>?_)
 ·obtain⟨n,rfl,_⟩:=h
  rfl
 obtain⟨n,rfl,hn,q⟩:=h;have nd:=YZ.nd
 refine⟨_,au (aO (i:=1) nd rfl (Or.inl rfl) (bK kq ak ak))<|
  au (aO (i:=2) nd rfl (Or.inl rfl) (cX a7))<|
  au (nT PassesOwn.never (cI Rg (a6 0) (a6 1) (cP _)) vk)<|
  au (fZ (gG plainAttrs_list PySem.F.slot_list_append PySem.F.type_list_append ju (a6 2) (dw (uz Rn rfl ms boot_str (aq (a6 0) a7)) a7)))<|
  aL (bx (Bn hr.hd aK rfl mR (aq (a6 2) a7) ⟨rfl,rfl,rfl,rfl⟩)),?_⟩
 have big:(100000000000:Int)<=(10:Int) ^ (64:Int).toNat:=by decide +kernel
 refine⟨_,_,rfl,rfl,⟨by decide,by decide,by decide⟩,aC,λD hD=>?_⟩;have s0:=ao hD (.lst []);refine⟨λ_ σ H'=>H'=upd H D (.lst [])/\σ=[some (.int (n:Nat)),some (.int ((10:Int) ^ (64:Int).toNat)),some (.ref D)],⟨0,rfl,rfl⟩,?_⟩
 rintro m σ H' ⟨rfl,rfl⟩
 refine⟨_,rfl,_,rfl,_,_,rfl,rfl,_,rfl,aP (by rw[decide_eq_false (by omega)];decide) ?_⟩;refine⟨_,rfl,.inl ⟨rfl,_,aG.of a8⟩,_,rfl,_,rfl,YX hn,D,_,_,rfl,rfl,a8,(by show 0<2 ^ 24;decide),?_⟩;have e:(Str.ofString (toString ((n:Nat):Int)))=tx (lR n):=YW n;obtain⟨j1,j2⟩:=zm6 (lR n) (by have:=Vc hn;omega);refine⟨Str.ofString "",rfl,_,rfl,D,tx (lR n),rfl,aG.of (by rw[a8,<-e];rfl),j1,?_⟩
 rw[j2];exact q _ (k6 s0 hD _)
theorem Dn (h:t.ok){b:Bool} (hb:if b then k=2 else k=1):inV (.str (hdT t)) ((if b then["*"] else["+","-"]:List Str).map V.str)=decide (gU t=some k):=by
 cases b with
 |true=>
  have hb:k=2:=hb;subst hb;cases t with
  |name _=>show inV (.str "name") [.str "*"]=false;decide +kernel
  |num _=>show inV (.str "number") [.str "*"]=false;decide +kernel
  |call _ _=>show inV (.str "call") [.str "*"]=false;decide +kernel
  |row _=>show inV (.str "row") [.str "*"]=false;decide +kernel
  |bin op x y=>
   rw[Tr.ok] at h
   rcases h.1 with rfl|rfl|rfl
   ·show inV (.str (tx [43])) [.str "*"]=false;decide +kernel
   ·show inV (.str (tx [45])) [.str "*"]=false;decide +kernel
   ·show inV (.str (tx [42])) [.str "*"]=true;decide +kernel
 |false=>
  have hb:k=1:=hb;subst hb;cases t with
  |name _=>show inV (.str "name") [.str "+",.str "-"]=false;decide +kernel
  |num _=>show inV (.str "number") [.str "+",.str "-"]=false;decide +kernel
  |call _ _=>show inV (.str "call") [.str "+",.str "-"]=false;decide +kernel
  |row _=>show inV (.str "row") [.str "+",.str "-"]=false;decide +kernel
  |bin op x y=>
   rw[Tr.ok] at h
   rcases h.1 with rfl|rfl|rfl
   ·show inV (.str (tx [43])) [.str "+",.str "-"]=true;decide +kernel
   ·show inV (.str (tx [45])) [.str "+",.str "-"]=true;decide +kernel
   ·show inV (.str (tx [42])) [.str "+",.str "-"]=false;decide +kernel
theorem Z0(t:Tr):(bare 1 t = !decide (gU t=some 1))/\(bare 2 t = !(gU t).isSome):=by
 cases t with
 |bin op x y=>
  by_cases h:op=42
  ·subst h;exact⟨rfl,rfl⟩
  ·have e:gU (.bin op x y)=some 1:=by show some (fK op)=_;unfold fK;rw[if_neg h]
   unfold bare;rw[e];exact⟨rfl,rfl⟩
 |_=>exact⟨rfl,rfl⟩
theorem Z1 : gU t=none\/gU t=some 1\/gU t=some 2:=by
 cases t with
 |bin op x y=>
  show some (fK op)=_\/some (fK op)=_\/some (fK op)=_;unfold fK
  split
  ·exact .inr (.inr rfl)
  ·exact .inr (.inl rfl)
 |_=>exact .inl rfl
theorem QR (h:t.ok){b:Bool} (hb:if b then k=2 else k=1):inV (.str (hdT t)) ((if b then["+","-","*"] else["+","-"]:List Str).map V.str) = !bare k t:=by
 have k1:=Dn h (b:=false) (k:=1) rfl;have k2:=Dn h (b:=true) (k:=2) rfl;obtain⟨b1,b2⟩:=Z0 t;cases b with
 |true=>
  have hb:k=2:=hb;subst hb;have e:inV (.str (hdT t)) ((["+","-","*"]:List Str).map V.str)=(inV (.str (hdT t)) ((["+","-"]:List Str).map V.str)||inV (.str (hdT t)) ((["*"]:List Str).map V.str)):=by
   show(jY _ _||(jY _ _||(jY _ _||false)))=((jY _ _||(jY _ _||false))||(jY _ _||false));simp[Bool.or_assoc]
  have k1:inV (.str (hdT t)) ((["+","-"]:List Str).map V.str)=decide (gU t=some 1):=k1
  have k2:inV (.str (hdT t)) ((["*"]:List Str).map V.str)=decide (gU t=some 2):=k2
  show inV (.str (hdT t)) ((["+","-","*"]:List Str).map V.str)=_
  rw[e,k1,k2,b2];rcases Z1 (t:=t) with z|z|z<;>rw[z]<;>rfl
 |false=>
  have hb:k=1:=hb;subst hb;have k1:inV (.str (hdT t)) ((["+","-"]:List Str).map V.str)=decide (gU t=some 1):=k1
  show inV (.str (hdT t)) ((["+","-"]:List Str).map V.str)=_
  rw[k1,b1,Bool.not_not]
theorem QU (h:t.ok){b:Bool} (hb:if b then k=2 else k=1)(hn:¬gU t=some k):inV (.str (hdT t)) ((if b then["+","-"] else[]:List Str).map V.str) = !bare k t:=by
 have k1:=Dn h (b:=false) (k:=1) rfl;obtain⟨b1,b2⟩:=Z0 t;cases b with
 |true=>
  have hb:k=2:=hb;subst hb;have k1:inV (.str (hdT t)) ((["+","-"]:List Str).map V.str)=decide (gU t=some 1):=k1
  show inV (.str (hdT t)) ((["+","-"]:List Str).map V.str)=_
  rw[k1,b2];rcases Z1 (t:=t) with z|z|z
  ·rw[z];rfl
  ·rw[z];rfl
  ·exact absurd z hn
 |false=>
  have hb:k=1:=hb;subst hb;show false=_;rw[b1,decide_eq_false hn];rfl
theorem KD{b:Bool}{zA zB:List Str}{tA tB:TA}{σ:St}{Q:VK} (hA:∀R,tA σ H R=R (zA.map V.str) H)(hB:∀R,tB σ H R=R (zB.map V.str) H)(lA:zA.length<=100)(lB:zB.length<=100)(h:∀u,H u=none->Q (.ref u) (upd H u (.tup ((if b then zA else zB).map V.str)))):
  if b=true then vG tA σ H Q else vG tB σ H Q:=by
 cases b with
 |true=>show tA σ H _;rw[hA];exact⟨by rw[length_map];exact d4 (by omega),h⟩
 |false=>show tB σ H _;rw[hB];exact⟨by rw[length_map];exact d4 (by omega),h⟩
theorem Z2:∀zs:List Str,(zs.map V.str).all pU=true
 |[]=>rfl
 |_::zs=>Z2 zs
theorem Z3:cQ ["_law_tree_here","_law_word","_law_kinds","_law_rest","_law_inner","_law_first","_law_plan"] ["_law_tree_here"] (cg Ht):=⟨rfl,rfl,rfl, ⋯,rfl, ⋯, ⋯⟩
theorem QY   (F:cA K "_law_plan_of" "_law_plan_of" Ht f fd)(ms:mg "str"=none)
  (GP:aH P w K mg base aB n fP dP ["_law_first","_law_parts_here","_law_last"] (Ko d)) (bP:Binds K dP ["_law_first","_law_parts_here","_law_last"] []) (kP:keepIn K (.ref fP)=true) (mP:mg "_law_parts"=some (.ref fP))
  (GO:aH P w K mg base aB n fO dO ["_law_tree_here","_law_kinds"] (Kp d)) (bO:Binds K dO ["_law_tree_here","_law_kinds"] []) (kO:keepIn K (.ref fO)=true) (mO:mg "_law_operand"=some (.ref fO))
  (GJ:aH P w K mg base aB 1 fJ dJ ["_law_plans"] xG) (bJ:Binds K dJ ["_law_plans"] []) (kJ:keepIn K (.ref fJ)=true) (mJ:mg "_law_joined"=some (.ref fJ)) (hn:1<=n):aH P w K mg base aB (n+1) f fd ["_law_tree_here"] (Ag (d+1)):=by
 refine F.cU Z3 (λvs H Q E h=>?_) (λcdv A outer s H vs Q E hr h=>?_)
 ·obtain⟨r,t,rfl,_⟩:=h
  rfl
 obtain⟨r,t,rfl,hT,ho,hd,gw,q⟩:=h;have nd:=Z3.nd;have hr1:cZ 1 _:=hr.mono hn
 refine⟨_,au (aO (i:=1) nd rfl (Or.inl rfl) (aF aN (a6 0) ak (λ_ _=>rfl)))<|
  au (cN (cI qY (a6 1) (bf (aM aK (aM aK a7))) rfl) (aL (bx (bf (aM aK (dw (uz (Rn.or va) rfl ms boot_str (cF (aF aN (a6 0) ak (λ_ _=>rfl)) a7)) a7))))) cW)<|
  au (cN (cI d8 (a6 1) aK (cP _)) (aL (bx (c9 GP hr rfl mP kP bP .nil aU (iC (bK pQ (aF aN (a6 0) ak (λ_ _=>rfl)) aK) (cF (aF aN (a6 0) ak (λ_ _=>rfl)) (aM aK a7)))))) cW)<|
  au (cN (cI d8 (a6 1) aK (cP _)) (aL (bx (c9 GP hr rfl mP kP bP .nil aU (aM aK (cF (aF aN (a6 0) ak (λ_ _=>rfl)) (aM aK a7)))))) cW)<|
  au (aO (i:=2) nd rfl (Or.inl rfl) (jL (cI d8 (a6 1) aK (cP _)) (bf (aM aK a7)) (bf (aM aK (aM aK a7)))))<|
  au (aO (i:=3) nd rfl (Or.inl rfl) (cX a7))<|
  au (nT PassesOwn.never (cI qY (aF aN (a6 0) ak (λ_ _=>rfl)) (a6 2) rfl)
   (au (aO (i:=4) nd rfl (Or.inl rfl) (c9 GO hr rfl mO kO bO .nil aU (cF (aF aN (a6 0) ak (λ_ _=>rfl)) (vR (jL (cI d8 (a6 1) aK (cP _)) (bf (aM aK (aM aK (aM aK a7)))) (bf (aM aK (aM aK a7)))) a7 rfl))))<|
    au (aO (i:=3) nd rfl (Or.inl rfl) (bK rA (cX (d0 (bf (aM aK a7)) (d0 (bf (aM aK (iC (bK pQ (aF aN (a6 0) ak (λ_ _=>rfl)) aK) a7))) (aq (a6 4) a7)))) (a6 3)))<|
    aL (aO (i:=0) nd rfl (Or.inl rfl) (aF aN (a6 0) ak (λ_ _=>rfl)))))<|
  au (aO (i:=5) nd rfl (Or.inl rfl) (c9 GO hr rfl mO kO bO .nil aU (aq (a6 0) (vR (jL (cI d8 (a6 1) aK (cP _)) (bf (aM aK (aM aK a7))) (bf a7)) a7 rfl))))<|
  au (aO (i:=6) nd rfl (Or.inl rfl) (bf (aM aK (aq (a6 5) (d0 (bf (aM aK (aM ak (dw (c9 GJ hr1 rfl mJ kJ bJ .nil aU (aq (a6 3) a7)) a7)))) a7)))))<|
  aL (bx (bf (aM aK (d0 (bf (aM aK (aq (a6 6) a7))) (aq (a6 6) a7))))),?_⟩
 obtain⟨xs,hx⟩:=vf hT;have hat:∀(t:Tr) (xs:List V),dN (V.str (hdT t)::xs) (0:Int)=some (.str (hdT t)):=λt xs=>by show dN (V.str (hdT t)::xs) ((0:Nat):Int)=_;exact gF rfl
 refine⟨_,rfl,r,_,_,_,rfl,rfl,a9.of hx,hat _ _,?_⟩;refine⟨_,rfl,aC,λu1 hu1=>⟨u1,_,rfl,.inr (a9.of a8),rfl,rfl,_,rfl,?_⟩⟩;have s1:=ao hu1 (.tup [.str "name",.str "number"])
 show if inV (.str (hdT t)) [.str "name",.str "number"]=true then _ else _
 cases t with
 |name x=>
  have hT:H r=some (.tup [.str "name",.str (tx x)]):=by rw[dh] at hT;exact hT
  refine cG (by show inV (.str "name") [.str "name",.str "number"]=true;decide +kernel) ?_
  refine⟨_,rfl,r,_,_,_,rfl,rfl,a9.of (s1 _ _ hT),rfl,.inr ⟨_,rfl,aC,λp hp=>q p _ (s1.trans (ao hp _)) ?_⟩⟩;show aZ _ (bV aY (.name x)).1 p;rw[bV];exact a8
 |num x=>
  have hT:H r=some (.tup [.str "number",.int (x:Nat)]):=by rw[dh] at hT;exact hT
  rw[Tr.ok] at ho
  refine cG (by show inV (.str "number") [.str "name",.str "number"]=true;decide +kernel) ?_
  refine⟨_,rfl,r,_,_,_,rfl,rfl,a9.of (s1 _ _ hT),rfl,.inl ⟨_,rfl,YX ho,aC,λp hp=>q p _ (s1.trans (ao hp _)) ?_⟩⟩;show aZ _ (bV aY (.num x)).1 p;rw[bV];show _=some (HO.tup [.str "text",.str (tx (lR x))])
  rw[<-YW];exact a8
 |call x ts=>
  obtain⟨l,as,hT,hl,hts⟩:∃l as,H r=some (.tup [.str "call",.str (tx x),.ref l])/\H l=some (.tup (as.map V.ref))/\dZ H ts as:=by rw[dh] at hT;exact hT
  rw[Tr.ok] at ho
  have hd':Tr.eN ts+1<=d:=hd;have K5:Tr.eN ts+1<=3:=gw;refine aP (by show ¬inV (.str "call") [.str "name",.str "number"]=true;decide +kernel) ?_
  refine⟨_,rfl,rfl,_,rfl,cG (by show decide (V.str "call"=V.str "call")=true;decide +kernel) ?_⟩
  have eo:tx x++Str.ofString "("=tx (x++[40]):=by rw[<-j8];congr 1
  have hT1:=s1 _ _ hT;refine⟨_,rfl,r,_,_,_,rfl,rfl,a9.of hT1,rfl,_,_,rfl,rfl,d4 (by rw[dz];have:=ho.1.1;show _+1<=_;omega),_,rfl,r,_,_,_,rfl,rfl,a9.of hT1,rfl,?_⟩;rw[eo];refine⟨x++[40],[41],l,as,ts,rfl,by rw[length_append];have:=ho.1.1;show _+1<=_;omega,by decide,s1 _ _ hl,dZ.mono (.of s1) hts,ho.2.2,ho.2.1,by omega,by omega,λr' H' s' P'=>q r' H' (s1.trans s') ?_⟩;show aZ _ (bV aY (.call x ts)).1 r';rw[bV];exact P'
 |row ts=>
  obtain⟨l,as,hT,hl,hts⟩:∃l as,H r=some (.tup [.str "row",.ref l])/\H l=some (.tup (as.map V.ref))/\dZ H ts as:=by rw[dh] at hT;exact hT
  rw[Tr.ok] at ho
  have hd':Tr.eN ts+1<=d:=hd;have K5:Tr.eN ts+1<=3:=gw;refine aP (by show ¬inV (.str "row") [.str "name",.str "number"]=true;decide +kernel) ?_
  refine⟨_,rfl,rfl,_,rfl,aP (by show ¬decide (V.str "row"=V.str "call")=true;decide +kernel) ?_⟩
  refine⟨_,rfl,rfl,_,rfl,cG (by show decide (V.str "row"=V.str "row")=true;decide +kernel) ?_⟩
  refine⟨_,rfl,r,_,_,_,rfl,rfl,a9.of (s1 _ _ hT),rfl,?_⟩;refine⟨[91],[93],l,as,ts,rfl,by decide,by decide,s1 _ _ hl,dZ.mono (.of s1) hts,ho.2,ho.1,by omega,by omega,λr' H' s' P'=>q r' H' (s1.trans s') ?_⟩;show aZ _ (bV aY (.row ts)).1 r';rw[bV];exact P'
 |bin op a b=>
  have ho':=ho;rw[Tr.ok] at ho'
  have ne:∀x:Str,(x="name"\/x="number"\/x="call"\/x="row")->¬(tx [op]=x):=λx hq z=>by
   rcases ho'.1 with rfl|rfl|rfl<;>rcases hq with rfl|rfl|rfl|rfl<;>revert z<;>decide +kernel
  have Z4:∀x:Str,(x="name"\/x="number"\/x="call"\/x="row")->¬(decide (V.str (hdT (.bin op a b))=V.str x)=true):=λx hq z=>ne x hq (V.str.inj (of_decide_eq_true z))
  refine aP (by rcases ho'.1 with rfl|rfl|rfl<;>(show ¬inV (.str (tx [_])) [.str "name",.str "number"]=true)<;>decide +kernel) ?_
  refine⟨_,rfl,rfl,_,rfl,aP (Z4 _ (.inr (.inr (.inl rfl)))) ?_⟩;refine⟨_,rfl,rfl,_,rfl,aP (Z4 _ (.inr (.inr (.inr rfl)))) ?_⟩;obtain⟨k,hk⟩:∃k,fK op=k:=⟨_,rfl⟩;have hb:if decide (V.str (hdT (.bin op a b))=V.str "*") then k=2 else k=1:=by
   subst hk;rcases ho'.1 with rfl|rfl|rfl
   ·have e:decide (V.str (hdT (.bin 43 a b))=V.str "*")=false:=by show decide (V.str (tx [43])=V.str "*")=false;decide +kernel
    rw[e];rfl
   ·have e:decide (V.str (hdT (.bin 45 a b))=V.str "*")=false:=by show decide (V.str (tx [45])=V.str "*")=false;decide +kernel
    rw[e];rfl
   ·have e:decide (V.str (hdT (.bin 42 a b))=V.str "*")=true:=by show decide (V.str (tx [42])=V.str "*")=true;decide +kernel
    rw[e];rfl
  refine⟨_,rfl,rfl,_,rfl,KD (zA:=["*"]) (zB:=["+","-"]) (λ_=>rfl) (λ_=>rfl) (by decide) (by decide) λku Rc=>⟨aC,λD hD=>?_⟩⟩
  generalize hbw:decide (V.str (hdT (.bin op a b))=V.str (Str.ofString "*"))=bw at hb hD ⊢
  have s2:=ao Rc (.tup ((if bw then["*"] else["+","-"]:List Str).map V.str))
  have s3:=ao hD (.lst []);have Z5:=s3 _ _ (show(upd _ ku (.tup ((if bw then["*"] else["+","-"]:List Str).map V.str))) ku=_ from a8)
  have vm:(upd (upd (upd H u1 (.tup [.str "name",.str "number"])) ku (.tup ((if bw then["*"] else["+","-"]:List Str).map V.str))) D (.lst [])) D=some (.lst []):=a8
  have pH:=s1.trans (s2.trans s3);have Z6:=hT.mono (.of pH)
  generalize upd (upd (upd H u1 (.tup [.str "name",.str "number"])) ku (.tup ((if bw then["*"] else["+","-"]:List Str).map V.str))) D (.lst [])=H3 at Z5 vm pH Z6 ⊢
  refine⟨λm σ H'=>∃(rx:Addr) (x:Tr) (L:List (Nat×Tr)) (rl:Addr) (bs:List Addr) (v4:Option V),σ=[some (.ref rx),some (.str (hdT (.bin op a b))),some (.ref ku),some (.ref rl),v4,none,none]/\m=x.size/\Same H3 H'/\dh H' x rx/\x.ok/\H' rl=some (.lst (bs.map V.ref))/\cM H' bs (jV aY L)/\
   jd aY k (.bin op a b)=((jd aY k x).1,(jd aY k x).2++jV aY L)/\L.length+x.deep<=(Tr.bin op a b).deep/\(L=[]->x=.bin op a b),
   ⟨_,r,_,[],D,[],none,rfl,rfl,Same.refl _,Z6,ho,vm,.nil,by show _=(_,_++[]);rw[append_nil],by show 0+_<=_;omega,λ_=>rfl⟩,?_⟩
  rintro m σ H' ⟨rx,x,L,rl,bs,v4,rfl,rfl,sH,vp,hox,hrl,hPl,hch,hdp,hst⟩
  obtain⟨ys,hy⟩:=vf vp;have tM:=nA hPl;have hll:(jV aY L).length=L.length*3:=by unfold jV;rw[lM _ 3 _ λ_ _=>rfl,length_reverse]
  refine⟨_,rfl,rx,_,_,_,rfl,rfl,a9.of hy,hat _ _,_,rfl,ku,_,rfl,.inr (a9.of (sH _ _ Z5)),rfl,Z2 _,_,rfl,?_⟩;show if inV (.str (hdT x)) ((if bw then["*"] else["+","-"]:List Str).map V.str)=true then _ else _
  rw[Dn hox hb]
  by_cases vq:gU x=some k
  ·refine cG (decide_eq_true vq) ?_
   cases x with
   |bin op' a' b'=>
    obtain⟨x',y',hb',ha',hb2⟩:∃x y,H' rx=some (.tup [.str (tx [op']),.ref x,.ref y])/\dh H' a' x/\dh H' b' y:=by rw[dh] at vp;exact vp
    rw[Tr.ok] at hox
    have hk':fK op'=k:=Option.some.inj vq;have hdx:(Tr.bin op' a' b').deep=max a'.deep b'.deep+1:=rfl
    refine⟨λσ' fQ=>∃m',m'<(Tr.bin op' a' b').size/\∃(rx:Addr) (x:Tr) (L:List (Nat×Tr)) (rl:Addr) (bs:List Addr) (v4:Option V),σ'=[some (.ref rx),some (.str (hdT (.bin op a b))),some (.ref ku),some (.ref rl),v4,none,none]/\m'=x.size/\Same H3 fQ/\dh fQ x rx/\x.ok/\fQ rl=some (.lst (bs.map V.ref))/\cM fQ bs (jV aY L)/\
     jd aY k (.bin op a b)=((jd aY k x).1,(jd aY k x).2++jV aY L)/\L.length+x.deep<=(Tr.bin op a b).deep/\(L=[]->x=.bin op a b),λ_ _ z=>z,?_⟩
    refine⟨_,rfl,rx,_,_,.ref y',rfl,rfl,a9.of hb',rfl,_,rfl,rfl,_,rfl,?_⟩;rw[hbw];refine KD (zA:=["+","-","*"]) (zB:=["+","-"]) (λ_=>rfl) (λ_=>rfl) (by decide) (by decide) λu2 hu2=>?_
    have n2:=ao hu2 (.tup ((if bw then["+","-","*"] else["+","-"]:List Str).map V.str))
    refine⟨y',u2,b',_,bare k b',rfl,a8,QR hox.2.2 hb,hb2.mono (.of n2),hox.2.2,by omega,by omega,λr5 H5 s5 P5=>?_⟩;have n25:=n2.trans s5;have Re:=n25 _ _ hb';refine⟨aC,λp1 h1=>?_⟩;have m1:=ao h1 (.tup [.str "line"])
    refine⟨_,rfl,rx,_,_,.str (tx [op']),rfl,rfl,a9.of (m1 _ _ Re),rfl,_,_,rfl,rfl,d4 (by rw[dz];show 1+1<=_;omega),aC,λp2 h2=>?_⟩;have m2:=ao h2 (.tup [.str "text",.str (tx [op']++Str.ofString " ")])
    refine⟨_,rfl,aC,λl1 hl1=>?_⟩;have m3:=ao hl1 (.lst [.ref p1,.ref p2,.ref r5]);have Z7:=m1.trans (m2.trans m3);refine⟨_,rfl,l1,rl,_,_,rfl,rfl,a8,(n25.trans Z7) _ _ hrl,d4 (by rw[length_map];show 3+_<=_;omega),λl2 hl2=>?_⟩;have m4:=ao hl2 (.lst ([.ref p1,.ref p2,.ref r5]++bs.map V.ref));have Z8:=Z7.trans m4;have n9:=n25.trans Z8;refine⟨_,rfl,rx,_,_,.ref x',rfl,rfl,a9.of (n9 _ _ hb'),rfl,a'.size,by rw[Tr.size];omega,x',a',L++[(op',b')],l2,[p1,p2,r5]++bs,_,rfl,rfl,sH.trans n9,ha'.mono (.of n9),hox.2.1,by rw[a8,map_append];rfl,?_,?_,by rw[length_append];show _+1+_<=_;omega,λz=>by simp at z⟩
    ·rw[Kl]
     refine cM.append (.cons (m4 _ _ (m3 _ _ (m2 _ _ a8))) (.cons ?_ (.cons ?_ .nil))) (cM.mono (.of n9) hPl)
     ·show _=some (HO.tup [.str "text",.str (tx [op',32])])
      have e:tx [op',32]=tx [op']++Str.ofString " ":=by rw[show[op',32]=[op']++[32] from rfl,<-j8];congr 1
      rw[e];exact m4 _ _ (m3 _ _ a8)
     ·show aZ _ (f7 aY (fK op') b' (bh aY b')) r5
      rw[hk'];exact P5.mono (.of Z8)
    ·rw[hch,Kh aY hk',Kl]
     simp only[append_assoc]
   |_=>cases vq
  ·refine aP (by rw[decide_eq_false vq];decide) ?_
   have hne:L≠[]:=λz=>vq (by rw[hst z];exact congrArg some hk)
   have hL1:1<=L.length:=by cases L with
    |nil=>exact absurd rfl hne
    |cons y L=>rw[length_cons];omega
   have RA:jd aY k (.bin op a b)=(f7 aY k x (bh aY x),jV aY L):=by
    rw[hch];unfold jd;rw[if_neg vq];rfl
   refine⟨_,rfl,_,rfl,rfl,_,rfl,?_⟩;rw[hbw];refine KD (zA:=["+","-"]) (zB:=[]) (λ_=>rfl) (λ_=>rfl) (by decide) (by decide) λu2 hu2=>?_
   have n2:=ao hu2 (.tup ((if bw then["+","-"] else[]:List Str).map V.str))
   refine⟨rx,u2,x,_,bare k x,rfl,a8,QU hox hb vq,vp.mono (.of n2),hox,by omega,by omega,λr5 H5 s5 P5=>?_⟩;have n25:=n2.trans s5;refine⟨_,rfl,_,rfl,rl,bs,jV aY L,rfl,n25 _ _ hrl,cM.mono (.of n25) hPl,(λz=>by rw[z] at hll;simp at hll;omega),by omega,λr6 H6 s6 P6=>⟨aC,λp1 h1=>⟨aC,λp2 h2=>?_⟩⟩⟩;have m1:=ao h1 (.tup [.str "nest",.int 2,.ref r6])
   have m2:=ao h2 (.tup [.str "beside",.ref r5,.ref p1])
   refine⟨_,rfl,aC,λp3 h3=>⟨_,rfl,aC,λp4 h4=>?_⟩⟩;have m3:=ao h3 (.tup [.str "flat",.ref p2])
   have m4:=ao h4 (.tup [.str "choice",.ref p3,.ref p2])
   have Dp:=m2.trans (m3.trans m4);refine q p4 _ (pH.trans (sH.trans (n25.trans (s6.trans (m1.trans Dp))))) ?_;rw[Yo,hk,RA];have B:aZ (upd (upd (upd (upd H6 p1 (.tup [.str "nest",.int 2,.ref r6])) p2 (.tup [.str "beside",.ref r5,.ref p1])) p3 (.tup [.str "flat",.ref p2])) p4 (.tup [.str "choice",.ref p3,.ref p2])) (.beside (f7 aY k x (bh aY x)) (.nest 2 (aY (jV aY L)))) p2:=
    ⟨r5,p1,m4 _ _ (m3 _ _ a8),P5.mono (.of (s6.trans (m1.trans Dp))),r6,Dp _ _ a8,P6.mono (.of (m1.trans Dp))⟩
   exact⟨p3,p2,a8,⟨p2,m4 _ _ a8,B⟩,B⟩
abbrev pJ:List Str:=["_law_plan"]
theorem Z9:cQ ["_law_plan","_law_row","_law_found","_law_behind"] pJ (cg Bu):=⟨rfl,rfl,rfl, ⋯,rfl, ⋯, ⋯⟩
theorem RC (F:cA K "_law_sides" "_law_sides" Bu f fd)(mF:mg "_law_sides"=some (.ref f))(bF:Binds K fd pJ [])
  (G:aH P w K mg base aB n f fd pJ (yL n)):aH P w K mg base aB (n+1) f fd pJ (yL (n+1)):=by
 refine F.cU Z9 (λvs H Q E h=>?_) (λcdv A outer s H vs Q E hr h=>?_)
 ·obtain⟨r,p,rfl,_⟩:=h
  rfl
 obtain⟨r,p,rfl,hP,hd,hz,hw,q⟩:=h;have nd:=Z9.nd
 refine⟨_,au (cN (cI d8 (aF aN (a6 0) ak (λ_ _=>rfl)) aK (cP _)) (aL (bx (bK rA
   (vU rfl (Bk (by decide) rfl rfl ⋯) (nU (c9 G hr rfl mF F.kp bF .nil aU (cF (aF aN (a6 0) ak (λ_ _=>rfl)) a7))) (λ_ _ _ _=>uw) (λ_ _ _ _=>bK rA (cX (aM ak a7)) (a6 0)))
   (vU rfl (Bk (by decide) rfl rfl ⋯) (nU (c9 G hr rfl mF F.kp bF .nil aU (cF (aF aN (a6 0) ak (λ_ _=>rfl)) a7))) (λ_ _ _ _=>uw) (λ_ _ _ _=>bK rA (cX (aM ak a7)) (a6 0)))))) cW)<|
  au (cN (cI d8 (aF aN (a6 0) ak (λ_ _=>rfl)) aK (cP _)) (
   au (aO (i:=2) nd rfl (Or.inl rfl) (cX a7))<|
   au (aO (i:=3) nd rfl (Or.inl rfl) (c9 G hr rfl mF F.kp bF .nil aU (cF (aF aN (a6 0) ak (λ_ _=>rfl)) a7)))<|
   au (lK PassesOwn.never rfl (nU (c9 G hr rfl mF F.kp bF .nil aU (cF (aF aN (a6 0) ak (λ_ _=>rfl)) a7))) (jX (i:=1) nd rfl (Or.inr rfl))
    (aL (fZ (gG plainAttrs_list slot_list_extend type_list_extend qZ (a6 2) (vR
     (vU (cl:=[("_law_row",s.heap.objs.size+1)]) (ys:=["_law_row"]) (js:=[1]) rfl ⟨rfl, ?c1,by decide,rfl, ⋯,rfl, ⋯, ?c2,rfl, ?c3⟩ (nU (a6 3)) (λ_ _ _ _=>uw) (λ_ _ _ _=>bK rA (a6 1) (a6 0))) a7)))))<|
   aL (bx (a6 2))) cW)<|
  au (cN (cI qY (aF aN (a6 0) ak (λ_ _=>rfl)) (bf (aM aK (aM aK (aM aK a7)))) rfl) (aL (bx (cX (oR (cX a7) a7)))) cW)<|
  aL (bx (c9 G hr rfl mF F.kp bF .nil aU (cF (aF aN (a6 0) (uy uc ak) (λ_ _=>rfl)) a7))),?_⟩
 case c1=>exact λy c h=>h
 case c2=>
  intro y h;have h':(y,NameKind.cell)∈([(".0",.local),("_law_more",.local),("_law_row",.cell)]:List (Str×NameKind))\/(y,NameKind.free)∈([(".0",.local),("_law_more",.local),("_law_row",.cell)]:List (Str×NameKind)):=by
   rcases h with h|h
   ·exact .inl (PySem.mem_of_lookup h)
   ·exact .inr (PySem.mem_of_lookup h)
  have e:y="_law_row":=by
   rcases h' with h'|h'<;>simp at h'
   exact h'
  subst e;exact⟨_,rfl⟩
 case c3=>
  intro k j h;cases k with
  |zero=>cases h;exact⟨"_law_row",rfl,rfl,.inl rfl,⟨_,rfl⟩,.inl rfl⟩
  |succ k=>cases h
 cases p with
 |choice p1 p2=>
  obtain⟨a1,a2,hP,fX,hP2⟩:=hP;have hd':max p1.deep p2.deep+1<=n:=hd;obtain⟨n,rfl⟩:∃n',n=n'+1:=⟨n - 1,by omega⟩;rw[FT] at hz
  have hw':p1.size+p2.size+1<=100000:=hw;refine⟨_,rfl,r,_,_,_,rfl,rfl,a9.of hP,rfl,rfl,_,rfl,cG ⋯ ?_⟩;refine⟨_,rfl,r,_,_,_,rfl,rfl,a9.of hP,rfl,a1,p1,rfl,fX,by omega,by omega,by omega,λxM H1 s1 R1=>?_⟩;obtain⟨as1,e1,w1,n1,m1⟩:=R1;refine⟨xM,rfl,⟨_,aG.of e1⟩,λD hD=>Um 0 e1 w1 (by omega) (λrow hr=>le_trans (nZ p1 row hr) (by omega)) hD λZa H2 s2 g1 v1 f1=>?_⟩;have s12:=s1.trans s2;refine⟨_,rfl,r,_,_,_,rfl,rfl,a9.of (s12 _ _ hP),rfl,a2,p2,rfl,hP2.mono (.of s12),by omega,by omega,by omega,λxO H3 s3 R3=>?_⟩;obtain⟨as2,e3,w3,n3,m3⟩:=R3;refine⟨xO,rfl,⟨_,aG.of e3⟩,λD2 hD2=>Um 1 e3 w3 (by omega) (λrow hr=>le_trans (nZ p2 row hr) (by omega)) hD2 λZb H4 s4 g2 v2 f2=>?_⟩;have l1:=lQ v1;have l2:=lQ v2;rw[length_map] at l1 l2
  refine⟨D,D2,_,_,rfl,rfl,(s3.trans s4) _ _ g1,g2,d4 (by rw[length_map,length_map];omega),λp hp=>?_⟩;have s5:=ao hp (.lst (Za.map V.ref++Zb.map V.ref));refine q p _ (s12.trans (s3.trans (s4.trans s5))) ⟨Za++Zb,by rw[a8,map_append],Rows.append ((v1.mono (s3.trans s4)).mono s5) (v2.mono s5),(s12.trans (s3.trans s4)).free hp,λb hb=>?_⟩;rcases List.mem_append.mp hb with z|z
  ·exact s1.free (f1 b z).2
  ·exact(s12.trans s3).free (f2 b z).2
 |beside p1 p2=>
  obtain⟨a1,a2,hP,fX,hP2⟩:=hP;have hd':max p1.deep p2.deep+1<=n:=hd;obtain⟨n,rfl⟩:∃n',n=n'+1:=⟨n - 1,by omega⟩;rw[FQ] at hz
  have hw':p1.size+p2.size+1<=100000:=hw;have k1:=U8 p1;have k2:=U8 p2;have z1:p1.sides.length<=100000:=le_trans (by have:=mul_le_mul_left p1.sides.length k2;omega) hz;have z2:p2.sides.length<=100000:=le_trans (by have:=mul_le_mul_right p2.sides.length k1;omega) hz;refine⟨_,rfl,r,_,_,_,rfl,rfl,a9.of hP,rfl,rfl,_,rfl,aP ⋯ ?_⟩;refine⟨_,rfl,r,_,_,_,rfl,rfl,a9.of hP,rfl,rfl,_,rfl,cG ⋯ ?_⟩;refine⟨aC,λfo hfo=>?_⟩;have s0:=ao hfo (.lst []);refine⟨_,rfl,r,_,_,_,rfl,rfl,a9.of (s0 _ _ hP),rfl,a2,p2,rfl,hP2.mono (.of s0),by omega,z2,by omega,λxO H2 s2 R2=>?_⟩;obtain⟨as2,e2,w2,n2,m2⟩:=R2;have vh:=s0.trans s2;refine⟨_,rfl,r,_,_,_,rfl,rfl,a9.of (vh _ _ hP),rfl,a1,p1,rfl,fX.mono (.of vh),by omega,z1,by omega,λxM H3 s3 R3=>?_⟩;obtain⟨as1,e1,w1,n1,m1⟩:=R3;have RE:H3 fo=some (.lst []):=s3 _ _ (s2 _ _ a8);have ne2:xO≠fo:=λz=>by rw[z,a8] at n2;cases n2
  have ne1:xM≠fo:=λz=>by rw[z,s2 _ _ a8] at n1;cases n1
  have RF:∀a∈as1,a≠fo:=λa ha z=>by have:=m1 a ha;rw[z,s2 _ _ a8] at this;cases this
  have RH:∀a∈as2,a≠fo:=λa ha z=>by have:=m2 a ha;rw[z,a8] at this;cases this
  have hlen:(as1.map V.ref).length=p1.sides.length:=by rw[length_map,lQ w1]
  have D0:Rows (del H3 fo) as1 p1.sides:=by
   have:∀ {as:List Addr} {rows:List (List Int)},Rows H3 as rows->(∀a∈as,a≠fo)->Rows (del H3 fo) as rows:=by
    intro as rows w
    induction w with
    |nil=>intro _;exact .nil
    |cons e t ih=>intro hne;exact .cons (by rw[uG (hne _ mem_cons_self)];exact e) (ih λa ha=>hne a (mem_cons_of_mem _ ha))
   exact this w1 RF
  have D2:Rows (del H3 fo) as2 p2.sides:=by
   have:∀ {as:List Addr} {rows:List (List Int)},Rows H3 as rows->(∀a∈as,a≠fo)->Rows (del H3 fo) as rows:=by
    intro as rows w
    induction w with
    |nil=>intro _;exact .nil
    |cons e t ih=>intro hne;exact .cons (by rw[uG (hne _ mem_cons_self)];exact e) (ih λa ha=>hne a (mem_cons_of_mem _ ha))
   exact this (w2.mono s3) RH
  have RO:del H3 fo xM=some (.lst (as1.map V.ref)):=by rw[uG ne1];exact e1
  have Zc:del H3 fo xO=some (.lst (as2.map V.ref)):=by rw[uG ne2];exact s3 _ _ e2
  refine⟨xM,rfl,⟨_,aG.of e1⟩,yd (K:=K) (a:=xM) (xs:=as1.map V.ref) (λi σ H4=>∃(v:Option V) (ys:List V),σ=[some (.ref r),v,some (.ref fo),some (.ref xO)]/\jN (del H3 fo) fo ((p1.sides.take i).flatMap λa=>p2.sides.map (a ++ ·)) H4 ys)
   ⟨_,[],rfl,⟨xS,RE,[],rfl,.nil,λ_ h=>nomatch h⟩⟩ (λi σ H4 _ ⟨_,_,_,g⟩=>aG.of (g.same _ _ RO)) ?_ ?_⟩
  ·rintro i x σ H4 hx ⟨v,ys,rfl,g⟩
   obtain⟨ax,row,rfl,hrow,ex⟩:=D0.get hx;have hi:i<p1.sides.length:=(List.getElem?_eq_some_iff.mp hrow).1;have hm:row∈p1.sides:=mem_of_getElem? hrow;refine⟨_,rfl,.inl ⟨rfl,_,aG.of g.at_⟩,_,rfl,xO,rfl,⟨_,aG.of (g.same _ _ Zc)⟩,λD hD=>xN (g.same _ _ Zc) (g.same _ _ ex) (D2.mono g.same) (by omega) (le_trans (nZ p1 row hm) (by omega)) (λRU hr'=>le_trans (nZ p2 RU hr') (by omega)) hD λbs H5 s5 gD v5 f5=>?_⟩;have l5:=lQ v5;rw[length_map] at l5
   have lg:=g.len;have lt:((p1.sides.take i).flatMap λa=>p2.sides.map (a ++ ·)).length=(p1.sides.take i).length*p2.sides.length:=lM _ _ _ λ_ _=>length_map _
   rw[lt,length_take] at lg
   have lm:min i p1.sides.length*p2.sides.length<=p1.sides.length*p2.sides.length:=mul_le_mul_right _ (Nat.min_le_right _ _);refine⟨fo,D,ys,_,rfl,rfl,s5 _ _ g.at_,gD,d4 (by rw[length_map];omega),_,ys++bs.map V.ref,rfl,?_⟩;have e:((p1.sides.take (i+1)).flatMap λa=>p2.sides.map (a ++ ·))=((p1.sides.take i).flatMap λa=>p2.sides.map (a ++ ·))++p2.sides.map (row ++ ·):=by rw[zk3 hrow,flatMap_append];simp
   rw[e];exact g.ext Uo s5 v5 λb hb=>⟨(λz=>by have:=(f5 b hb).2;rw[z,g.at_] at this;cases this),g.same.free (f5 b hb).2⟩
  ·rintro σ H4 ⟨v,ys,rfl,g⟩
   rw[hlen,take_length] at g
   obtain⟨bs,e,v4,f4⟩:=g.bs;have back:∀b,b≠fo->del H3 fo b=none->H b=none:=λb hb z=>by
    rw[uG hb] at z
    exact(vh.trans s3).free z
   refine⟨_,rfl,q fo H4 (λb o hb=>?_) ⟨bs,by rw[<-e];exact g.at_,v4,hfo,λb hb=>back b (f4 b hb).1 (f4 b hb).2⟩⟩;have hne:b≠fo:=c6 hb hfo;exact g.same b o (by rw[uG hne];exact s3 _ _ (vh _ _ hb))
 |text x=>
  have hP:H r=some (.tup [.str "text",.str (tx x)]):=hP
  refine⟨_,rfl,r,_,_,_,rfl,rfl,a9.of hP,rfl,rfl,_,rfl,aP ⋯ ?_⟩;refine⟨_,rfl,r,_,_,_,rfl,rfl,a9.of hP,rfl,rfl,_,rfl,aP ⋯ ?_⟩;refine⟨_,rfl,r,_,_,_,rfl,rfl,a9.of hP,rfl,aC,λp0 hp0=>⟨p0,_,rfl,.inr (a9.of a8),rfl,rfl,_,rfl,cG ⋯ ?_⟩⟩;refine⟨aC,λl hl=>⟨aC,λl2 hl2=>?_⟩⟩;have s0:=ao hp0 (.tup [.str "text",.str "line",.str "cut"])
  have s1:=ao hl (.lst []);have s2:=ao hl2 (.lst [.ref l]);exact q l2 _ (s0.trans (s1.trans s2)) ⟨[l],a8,.cons (s2 _ _ a8) .nil,(s0.trans s1).free hl2,λb hb=>by rw[List.mem_singleton.mp hb];exact s0.free hl⟩
 |line=>
  have hP:H r=some (.tup [.str "line"]):=hP
  refine⟨_,rfl,r,_,_,_,rfl,rfl,a9.of hP,rfl,rfl,_,rfl,aP ⋯ ?_⟩;refine⟨_,rfl,r,_,_,_,rfl,rfl,a9.of hP,rfl,rfl,_,rfl,aP ⋯ ?_⟩;refine⟨_,rfl,r,_,_,_,rfl,rfl,a9.of hP,rfl,aC,λp0 hp0=>⟨p0,_,rfl,.inr (a9.of a8),rfl,rfl,_,rfl,cG ⋯ ?_⟩⟩;refine⟨aC,λl hl=>⟨aC,λl2 hl2=>?_⟩⟩;have s0:=ao hp0 (.tup [.str "text",.str "line",.str "cut"])
  have s1:=ao hl (.lst []);have s2:=ao hl2 (.lst [.ref l]);exact q l2 _ (s0.trans (s1.trans s2)) ⟨[l],a8,.cons (s2 _ _ a8) .nil,(s0.trans s1).free hl2,λb hb=>by rw[List.mem_singleton.mp hb];exact s0.free hl⟩
 |cut=>
  have hP:H r=some (.tup [.str "cut"]):=hP
  refine⟨_,rfl,r,_,_,_,rfl,rfl,a9.of hP,rfl,rfl,_,rfl,aP ⋯ ?_⟩;refine⟨_,rfl,r,_,_,_,rfl,rfl,a9.of hP,rfl,rfl,_,rfl,aP ⋯ ?_⟩;refine⟨_,rfl,r,_,_,_,rfl,rfl,a9.of hP,rfl,aC,λp0 hp0=>⟨p0,_,rfl,.inr (a9.of a8),rfl,rfl,_,rfl,cG ⋯ ?_⟩⟩;refine⟨aC,λl hl=>⟨aC,λl2 hl2=>?_⟩⟩;have s0:=ao hp0 (.tup [.str "text",.str "line",.str "cut"])
  have s1:=ao hl (.lst []);have s2:=ao hl2 (.lst [.ref l]);exact q l2 _ (s0.trans (s1.trans s2)) ⟨[l],a8,.cons (s2 _ _ a8) .nil,(s0.trans s1).free hl2,λb hb=>by rw[List.mem_singleton.mp hb];exact s0.free hl⟩
 |nest k p1=>
  obtain⟨a1,hP,fX⟩:=hP;have hd':p1.deep+1<=n:=hd;obtain⟨n,rfl⟩:∃n',n=n'+1:=⟨n - 1,by omega⟩;have hw':p1.size+1<=100000:=hw;refine⟨_,rfl,r,_,_,_,rfl,rfl,a9.of hP,rfl,rfl,_,rfl,aP ⋯ ?_⟩;refine⟨_,rfl,r,_,_,_,rfl,rfl,a9.of hP,rfl,rfl,_,rfl,aP ⋯ ?_⟩;refine⟨_,rfl,r,_,_,_,rfl,rfl,a9.of hP,rfl,aC,λp0 hp0=>⟨p0,_,rfl,.inr (a9.of a8),rfl,rfl,_,rfl,aP ⋯ ?_⟩⟩;have s0:=ao hp0 (.tup [.str "text",.str "line",.str "cut"])
  refine⟨_,rfl,_,rfl,r,_,_,_,rfl,rfl,a9.of (s0 _ _ hP),rfl,a1,p1,rfl,fX.mono (.of s0),by omega,hz,by omega,λrr H1 s1 R1=>?_⟩;obtain⟨as,e,v,n1,m1⟩:=R1;exact q rr H1 (s0.trans s1) ⟨as,e,v,s0.free n1,λb hb=>s0.free (m1 b hb)⟩
 |align p1=>
  obtain⟨a1,hP,fX⟩:=hP;have hd':p1.deep+1<=n:=hd;obtain⟨n,rfl⟩:∃n',n=n'+1:=⟨n - 1,by omega⟩;have hw':p1.size+1<=100000:=hw;refine⟨_,rfl,r,_,_,_,rfl,rfl,a9.of hP,rfl,rfl,_,rfl,aP ⋯ ?_⟩;refine⟨_,rfl,r,_,_,_,rfl,rfl,a9.of hP,rfl,rfl,_,rfl,aP ⋯ ?_⟩;refine⟨_,rfl,r,_,_,_,rfl,rfl,a9.of hP,rfl,aC,λp0 hp0=>⟨p0,_,rfl,.inr (a9.of a8),rfl,rfl,_,rfl,aP ⋯ ?_⟩⟩;have s0:=ao hp0 (.tup [.str "text",.str "line",.str "cut"])
  refine⟨_,rfl,_,rfl,r,_,_,_,rfl,rfl,a9.of (s0 _ _ hP),rfl,a1,p1,rfl,fX.mono (.of s0),by omega,hz,by omega,λrr H1 s1 R1=>?_⟩;obtain⟨as,e,v,n1,m1⟩:=R1;exact q rr H1 (s0.trans s1) ⟨as,e,v,s0.free n1,λb hb=>s0.free (m1 b hb)⟩
 |flat p1=>
  obtain⟨a1,hP,fX⟩:=hP;have hd':p1.deep+1<=n:=hd;obtain⟨n,rfl⟩:∃n',n=n'+1:=⟨n - 1,by omega⟩;have hw':p1.size+1<=100000:=hw;refine⟨_,rfl,r,_,_,_,rfl,rfl,a9.of hP,rfl,rfl,_,rfl,aP ⋯ ?_⟩;refine⟨_,rfl,r,_,_,_,rfl,rfl,a9.of hP,rfl,rfl,_,rfl,aP ⋯ ?_⟩;refine⟨_,rfl,r,_,_,_,rfl,rfl,a9.of hP,rfl,aC,λp0 hp0=>⟨p0,_,rfl,.inr (a9.of a8),rfl,rfl,_,rfl,aP ⋯ ?_⟩⟩;have s0:=ao hp0 (.tup [.str "text",.str "line",.str "cut"])
  refine⟨_,rfl,_,rfl,r,_,_,_,rfl,rfl,a9.of (s0 _ _ hP),rfl,a1,p1,rfl,fX.mono (.of s0),by omega,hz,by omega,λrr H1 s1 R1=>?_⟩;obtain⟨as,e,v,n1,m1⟩:=R1;exact q rr H1 (s0.trans s1) ⟨as,e,v,s0.free n1,λb hb=>s0.free (m1 b hb)⟩
abbrev pK:List Str:=["_law_plan","_law_bits","_law_text","_law_margin","_law_flat"]
def Ai:Nat->Sp
 |0=>λ_ _ _ _=>False
 |n+1=>λvs H Q _=>∃(r b:Addr) (p:Plan) (bits:List Int) (t:List Nat) (m:Nat) (fl:Bool) (t':List Nat) (rest:List Int),vs=[.ref r,.ref b,.str (tx t),.int m,.bl fl]/\aZ H p r/\p.deep<=n/\
  H b=some (.lst (bits.map V.int))/\lay p bits t m fl=some (t',rest)/\t'.length<=1000000/\
  ∀(q b':Addr) (H':Hp),Same H H'->H' q=some (.tup [.str (tx t'),.ref b'])->H' b'=some (.lst (rest.map V.int))->Q (.ref q) H'
theorem Zd:cQ ["_law_plan","_law_bits","_law_text","_law_margin","_law_flat","_law_word","_law_first"] pK (cg Bt):=⟨rfl,rfl,rfl, ⋯,rfl, ⋯, ⋯⟩
theorem RW (F:cA K "_law_lay" "_law_lay" Bt f fd)(mF:mg "_law_lay"=some (.ref f))(bF:Binds K fd pK [])(ml:mg "len"=none)(mi:mg "int"=none)
  (G:aH P w K mg base aB n f fd pK (Ai n)):aH P w K mg base aB (n+1) f fd pK (Ai (n+1)):=by
 refine F.cU Zd (λvs H Q E h=>?_) (λcdv A outer s H vs Q E hr h=>?_)
 ·obtain⟨r,b,p,bits,t,m,fl,t',rest,rfl,_⟩:=h
  rfl
 obtain⟨r,b,p,bits,t,m,fl,t',rest,rfl,hP,hd,hb,hlay,hz,q⟩:=h;have nd:=Zd.nd
 refine⟨_,au (aO (i:=5) nd rfl (Or.inl rfl) (aF aN (a6 0) ak (λ_ _=>rfl)))<|
  au (cN (cI d8 (a6 5) aK (cP _)) (aL (bx (bf (iC (bK pQ (a6 2) (aF aN (a6 0) ak (λ_ _=>rfl))) (aq (a6 1) a7))))) cW)<|
  au (cN (cI qY (a6 5) (bf (aM aK (aM aK a7))) rfl) (aL (bx (bf (iC (bK pQ (a6 2)
   (jL (Bc (a6 4)) (aF gK (cX (aM aK (aM aK a7))) (uz Rm rfl mi boot_int (vR (vQ d8 (a6 5) aK (cP _)) a7)) (λ_ _=>rfl)) (bK pQ aK (bK Tn aK (a6 3)))))
   (aq (a6 1) a7))))) cW)<|
  au (cN (cI d8 (a6 5) aK (cP _)) (au (aO (i:=6) nd rfl (Or.inl rfl) (c9 G hr rfl mF F.kp bF .nil aU (cF (aF aN (a6 0) ak (λ_ _=>rfl)) (aq (a6 1) (aq (a6 2) (aq (a6 3) (aq (a6 4) a7)))))))
   (aL (bx (c9 G hr rfl mF F.kp bF .nil aU (cF (aF aN (a6 0) ak (λ_ _=>rfl)) (cF (aF aN (a6 6) ak (λ_ _=>rfl)) (cF (aF aN (a6 6) ak (λ_ _=>rfl)) (aq (a6 3) (aq (a6 4) a7))))))))) cW)<|
  au (cN (cI d8 (a6 5) aK (cP _)) (aL (bx (c9 G hr rfl mF F.kp bF .nil aU (cF (aF aN (a6 0) (bK iQ ak (aF gK (a6 1) ak (λ_ _=>rfl))) (λ_ _=>rfl))
   (cF (yF B6 (a6 1) (yE ak) yq) (aq (a6 2) (aq (a6 3) (aq (a6 4) a7)))))))) cW)<|
  au (cN (cI d8 (a6 5) aK (cP _)) (aL (aO (i:=3) nd rfl (Or.inl rfl) (bK iQ (a6 3) (aF aN (a6 0) ak (λ_ _=>rfl))))) cW)<|
  au (cN (cI d8 (a6 5) aK (cP _)) (aL (aO (i:=3) nd rfl (Or.inl rfl) (bK pO (bK pO (j4 B7 rfl ml PySem.boot_len (aq (a6 2) a7))
   (gG plainAttrs_str PySem.F.slot_str_rfind PySem.F.type_str_rfind sC (a6 2) (aM aK a7))) ak))) cW)<|
  aL (bx (c9 G hr rfl mF F.kp bF .nil aU (cF (aF aN (a6 0) (uy uc ak) (λ_ _=>rfl)) (aq (a6 1) (aq (a6 2) (aq (a6 3)
   (vR (TQ (a6 4) (TJ (vQ d8 (a6 5) aK (cP _)))) a7))))))),?_⟩
 have z6:∀k:Nat,k<=2000000->k<=sizeLine:=λk hk=>d4 (by omega)
 have hext:=qb p bits rest t t' m fl hlay;cases p with
 |text x=>
  have hP:H r=some (.tup [.str "text",.str (tx x)]):=hP
  have hlay:some (t++x,bits)=some (t',rest):=hlay;cases hlay;refine⟨_,rfl,r,_,_,_,rfl,rfl,a9.of hP,rfl,?_⟩;refine⟨_,rfl,rfl,_,rfl,cG ⋯ ?_⟩;refine⟨_,rfl,_,rfl,r,_,_,_,rfl,rfl,a9.of hP,rfl,_,_,rfl,rfl,z6 _ (by rw[dz,dz];rw[length_append] at hz;omega),_,rfl,aC,λqa lG=>?_⟩;exact q qa b _ (ao lG _) (by rw[a8,j8]) ((ao lG _) _ _ hb)
 |line=>
  have hP:H r=some (.tup [.str "line"]):=hP
  have hlay:some (brk [32] t m fl,bits)=some (t',rest):=hlay;cases hlay;refine⟨_,rfl,r,_,_,_,rfl,rfl,a9.of hP,rfl,?_⟩;refine⟨_,rfl,rfl,_,rfl,aP ⋯ ?_⟩;refine⟨_,rfl,aC,λp1 hp1=>⟨p1,_,rfl,.inr (a9.of a8),rfl,rfl,_,rfl,cG ⋯ ?_⟩⟩;have s1:=ao hp1 (.tup [.str "line",.str "cut"])
  refine⟨_,rfl,_,rfl,_,rfl,?_⟩;cases fl with
  |true=>
   refine fu ?_;refine⟨aC,λl hl=>?_⟩;refine⟨_,rfl,rfl,.inr ⟨_,rfl,l,_,_,.str " ",rfl,rfl,aG.of a8, ⋯,?_⟩⟩
   refine⟨_,_,rfl,rfl,z6 _ (by rw[qe,dz,dz];simp[brk] at hz;simp;omega),_,rfl,aC,λqa lG=>?_⟩;exact q qa b _ (s1.trans ((ao hl _).trans (ao lG _))) (by rw[a8,qe,j8];rfl) ((ao lG _) _ _ ((ao hl _) _ _ (s1 _ _ hb)))
  |false=>
   refine gM ?_;have hz':t.length+1+m<=1000000:=by simp[brk] at hz;omega
   refine⟨_,rfl,_,_,rfl,rfl,(by omega),(by omega),(by rw[qe,dz];simp;omega),?_⟩;rw[qe,mul_one 32 m (by omega)];refine⟨_,_,rfl,rfl,z6 _ (by rw[oU,dz,dz];simp;omega),_,_,rfl,rfl,z6 _ (by rw[oU,j8,dz,dz];simp;omega),_,rfl,aC,λqa lG=>?_⟩;refine q qa b _ (s1.trans (ao lG _)) ?_ ((ao lG _) _ _ (s1 _ _ hb));rw[a8,oU,j8,j8];simp[brk]
 |cut=>
  have hP:H r=some (.tup [.str "cut"]):=hP
  have hlay:some (brk [] t m fl,bits)=some (t',rest):=hlay;cases hlay;refine⟨_,rfl,r,_,_,_,rfl,rfl,a9.of hP,rfl,?_⟩;refine⟨_,rfl,rfl,_,rfl,aP ⋯ ?_⟩;refine⟨_,rfl,aC,λp1 hp1=>⟨p1,_,rfl,.inr (a9.of a8),rfl,rfl,_,rfl,cG ⋯ ?_⟩⟩;have s1:=ao hp1 (.tup [.str "line",.str "cut"])
  refine⟨_,rfl,_,rfl,_,rfl,?_⟩;cases fl with
  |true=>
   refine fu ?_;refine⟨aC,λl hl=>?_⟩;refine⟨_,rfl,rfl,.inr ⟨_,rfl,l,_,_,.str "",rfl,rfl,aG.of a8, ⋯,?_⟩⟩
   refine⟨_,_,rfl,rfl,z6 _ (by rw[qg,dz,dz];simp[brk] at hz;simp;omega),_,rfl,aC,λqa lG=>?_⟩;exact q qa b _ (s1.trans ((ao hl _).trans (ao lG _))) (by rw[a8,qg,j8];rfl) ((ao lG _) _ _ ((ao hl _) _ _ (s1 _ _ hb)))
  |false=>
   refine gM ?_;have hz':t.length+1+m<=1000000:=by simp[brk] at hz;omega
   refine⟨_,rfl,_,_,rfl,rfl,(by omega),(by omega),(by rw[qe,dz];simp;omega),?_⟩;rw[qe,mul_one 32 m (by omega)];refine⟨_,_,rfl,rfl,z6 _ (by rw[oU,dz,dz];simp;omega),_,_,rfl,rfl,z6 _ (by rw[oU,j8,dz,dz];simp;omega),_,rfl,aC,λqa lG=>?_⟩;refine q qa b _ (s1.trans (ao lG _)) ?_ ((ao lG _) _ _ (s1 _ _ hb));rw[a8,oU,j8,j8];simp[brk]
 |beside p1 p2=>
  obtain⟨a1,a2,hP,fX,hP2⟩:=hP;have hd':max p1.deep p2.deep+1<=n:=hd;obtain⟨n,rfl⟩:∃n',n=n'+1:=⟨n - 1,by omega⟩;have hlay:(lay p1 bits t m fl).bind (λr=>lay p2 r.2 r.1 m fl)=some (t',rest):=hlay;cases e1:lay p1 bits t m fl with
  |none=>rw[e1] at hlay;cases hlay
  |some x=>
   obtain⟨t1,b1⟩:=x;rw[e1] at hlay
   have hlay:lay p2 b1 t1 m fl=some (t',rest):=hlay;have hz1:=qb p2 b1 rest t1 t' m fl hlay;refine⟨_,rfl,r,_,_,_,rfl,rfl,a9.of hP,rfl,?_⟩;refine⟨_,rfl,rfl,_,rfl,aP ⋯ ?_⟩;refine⟨_,rfl,aC,λp0 hp0=>⟨p0,_,rfl,.inr (a9.of a8),rfl,rfl,_,rfl,aP ⋯ ?_⟩⟩;have s0:=ao hp0 (.tup [.str "line",.str "cut"])
   refine⟨_,rfl,rfl,_,rfl,cG ⋯ ?_⟩;refine⟨_,rfl,r,_,_,_,rfl,rfl,a9.of (s0 _ _ hP),rfl,_,rfl,_,rfl,_,rfl,_,rfl,a1,b,p1,bits,t,m,fl,t1,b1,rfl,fX.mono (.of s0),by omega,s0 _ _ hb,e1,by omega,λq1 b' H1 s1 g1 g2=>?_⟩;refine⟨_,rfl,r,_,_,_,rfl,rfl,a9.of (s1 _ _ (s0 _ _ hP)),rfl,_,rfl,q1,_,_,_,rfl,rfl,a9.of g1,rfl,_,rfl,q1,_,_,_,rfl,rfl,a9.of g1,rfl,_,rfl,_,rfl,a2,b',p2,b1,t1,m,fl,t',rest,rfl,hP2.mono (.of (s0.trans s1)),by omega,g2,hlay,hz,λq2 b2 H2 s2 g3 g4=>?_⟩;exact q q2 b2 H2 (s0.trans (s1.trans s2)) g3 g4
 |choice p1 p2=>
  obtain⟨a1,a2,hP,fX,hP2⟩:=hP;have hd':max p1.deep p2.deep+1<=n:=hd;obtain⟨n,rfl⟩:∃n',n=n'+1:=⟨n - 1,by omega⟩;cases bits with
  |nil=>cases hlay
  |cons x bits=>
   have hlay:(if x=0 then lay p1 bits t m fl else if x=1 then lay p2 bits t m fl else none)=some (t',rest):=hlay;refine⟨_,rfl,r,_,_,_,rfl,rfl,a9.of hP,rfl,?_⟩;refine⟨_,rfl,rfl,_,rfl,aP ⋯ ?_⟩;refine⟨_,rfl,aC,λp0 hp0=>⟨p0,_,rfl,.inr (a9.of a8),rfl,rfl,_,rfl,aP ⋯ ?_⟩⟩;have s0:=ao hp0 (.tup [.str "line",.str "cut"])
   refine⟨_,rfl,rfl,_,rfl,aP ⋯ ?_⟩;refine⟨_,rfl,rfl,_,rfl,cG ⋯ ?_⟩;have Ze:iT ((x::bits).map V.int) (some 1) none=bits.map V.int:=xL _ _;have hx:x=0/\lay p1 bits t m fl=some (t',rest)\/x=1/\lay p2 bits t m fl=some (t',rest):=by
    by_cases c0:x=0
    ·rw[if_pos c0] at hlay;exact .inl ⟨c0,hlay⟩
    ·rw[if_neg c0] at hlay
     by_cases c1:x=1
     ·rw[if_pos c1] at hlay;exact .inr ⟨c1,hlay⟩
     ·rw[if_neg c1] at hlay;cases hlay
   refine⟨_,rfl,_,rfl,b,_,_,.int x,rfl,rfl,aG.of (s0 _ _ hb),gF (j:=0) rfl,_,_,rfl,rfl,?_⟩;rcases hx with⟨rfl,hl⟩|⟨rfl,hl⟩
   ·refine⟨r,_,_,.ref a1,rfl,rfl,a9.of (s0 _ _ hP),rfl,_,rfl,_,rfl,b,_,rfl,aG.of (s0 _ _ hb),λc hc=>?_⟩
    rw[Ze];have s1:=ao hc (.lst (bits.map V.int));refine⟨_,rfl,_,rfl,_,rfl,a1,c,p1,bits,t,m,fl,t',rest,rfl,fX.mono (.of (s0.trans s1)),by omega,a8,hl,hz,λq2 b2 H2 s2 g3 g4=>?_⟩;exact q q2 b2 H2 (s0.trans (s1.trans s2)) g3 g4
   ·refine⟨r,_,_,.ref a2,rfl,rfl,a9.of (s0 _ _ hP),rfl,_,rfl,_,rfl,b,_,rfl,aG.of (s0 _ _ hb),λc hc=>?_⟩
    rw[Ze];have s1:=ao hc (.lst (bits.map V.int));refine⟨_,rfl,_,rfl,_,rfl,a2,c,p2,bits,t,m,fl,t',rest,rfl,hP2.mono (.of (s0.trans s1)),by omega,a8,hl,hz,λq2 b2 H2 s2 g3 g4=>?_⟩;exact q q2 b2 H2 (s0.trans (s1.trans s2)) g3 g4
 |nest k p1=>
  obtain⟨a1,hP,fX⟩:=hP;have hd':p1.deep+1<=n:=hd;obtain⟨n,rfl⟩:∃n',n=n'+1:=⟨n - 1,by omega⟩;have hlay:lay p1 bits t (m+k) fl=some (t',rest):=hlay;refine⟨_,rfl,r,_,_,_,rfl,rfl,a9.of hP,rfl,?_⟩;refine⟨_,rfl,rfl,_,rfl,aP ⋯ ?_⟩;refine⟨_,rfl,aC,λp0 hp0=>⟨p0,_,rfl,.inr (a9.of a8),rfl,rfl,_,rfl,aP ⋯ ?_⟩⟩;have s0:=ao hp0 (.tup [.str "line",.str "cut"])
  refine⟨_,rfl,rfl,_,rfl,aP ⋯ ?_⟩;refine⟨_,rfl,rfl,_,rfl,aP ⋯ ?_⟩;refine⟨_,rfl,rfl,_,rfl,cG ⋯ ?_⟩;refine⟨_,rfl,_,rfl,r,_,_,_,rfl,rfl,a9.of (s0 _ _ hP),rfl,_,_,rfl,rfl,?_⟩;refine⟨_,rfl,rfl,_,rfl,aP ⋯ ?_⟩;refine⟨_,rfl,_,rfl,r,_,_,_,rfl,rfl,a9.of (s0 _ _ hP),rfl,_,rfl,_,rfl,_,rfl,_,rfl,_,rfl,?_⟩;cases fl with
  |true=>
   refine fu ?_;exact⟨a1,b,p1,bits,t,m+k,true,t',rest,rfl,fX.mono (.of s0),by omega,s0 _ _ hb,hlay,hz,λq2 b2 H2 s2 g3 g4=>q q2 b2 H2 (s0.trans s2) g3 g4⟩
  |false=>
   refine gM ?_;refine⟨_,rfl,rfl,?_⟩;exact⟨a1,b,p1,bits,t,m+k,false,t',rest,(by rw[show decide (V.str "nest"=V.str "flat")=false from ⋯];rfl),fX.mono (.of s0),by omega,s0 _ _ hb,hlay,hz,λq2 b2 H2 s2 g3 g4=>q q2 b2 H2 (s0.trans s2) g3 g4⟩
 |align p1=>
  obtain⟨a1,hP,fX⟩:=hP;have hd':p1.deep+1<=n:=hd;obtain⟨n,rfl⟩:∃n',n=n'+1:=⟨n - 1,by omega⟩;have hlay:lay p1 bits t (col t) fl=some (t',rest):=hlay;have ec:((tx t).length:Int) - Txt.rfind (tx t) (Str.ofString "\n") - 1=(col t:Int):=by rw[oU];exact xE t
  refine⟨_,rfl,r,_,_,_,rfl,rfl,a9.of hP,rfl,?_⟩;refine⟨_,rfl,rfl,_,rfl,aP ⋯ ?_⟩;refine⟨_,rfl,aC,λp0 hp0=>⟨p0,_,rfl,.inr (a9.of a8),rfl,rfl,_,rfl,aP ⋯ ?_⟩⟩;have s0:=ao hp0 (.tup [.str "line",.str "cut"])
  refine⟨_,rfl,rfl,_,rfl,aP ⋯ ?_⟩;refine⟨_,rfl,rfl,_,rfl,aP ⋯ ?_⟩;refine⟨_,rfl,rfl,_,rfl,aP ⋯ ?_⟩;refine⟨_,rfl,rfl,_,rfl,cG ⋯ ?_⟩;refine⟨_,rfl,_,rfl,z6 _ (by rw[dz];omega),_,rfl,rfl,_,_,rfl,rfl,_,_,rfl,rfl,_,_,rfl,rfl,?_⟩;refine⟨_,rfl,_,rfl,r,_,_,_,rfl,rfl,a9.of (s0 _ _ hP),rfl,_,rfl,_,rfl,_,rfl,_,rfl,_,rfl,?_⟩;cases fl with
  |true=>
   refine fu ?_;exact⟨a1,b,p1,bits,t,col t,true,t',rest,(by rw[<-ec];rfl),fX.mono (.of s0),by omega,s0 _ _ hb,hlay,hz,λq2 b2 H2 s2 g3 g4=>q q2 b2 H2 (s0.trans s2) g3 g4⟩
  |false=>
   refine gM ?_;refine⟨_,rfl,rfl,?_⟩;exact⟨a1,b,p1,bits,t,col t,false,t',rest,(by rw[show decide (V.str "align"=V.str "flat")=false from ⋯,<-ec];rfl),fX.mono (.of s0),by omega,s0 _ _ hb,hlay,hz,λq2 b2 H2 s2 g3 g4=>q q2 b2 H2 (s0.trans s2) g3 g4⟩
 |flat p1=>
  obtain⟨a1,hP,fX⟩:=hP;have hd':p1.deep+1<=n:=hd;obtain⟨n,rfl⟩:∃n',n=n'+1:=⟨n - 1,by omega⟩;have hlay:lay p1 bits t m true=some (t',rest):=hlay;refine⟨_,rfl,r,_,_,_,rfl,rfl,a9.of hP,rfl,?_⟩;refine⟨_,rfl,rfl,_,rfl,aP ⋯ ?_⟩;refine⟨_,rfl,aC,λp0 hp0=>⟨p0,_,rfl,.inr (a9.of a8),rfl,rfl,_,rfl,aP ⋯ ?_⟩⟩;have s0:=ao hp0 (.tup [.str "line",.str "cut"])
  refine⟨_,rfl,rfl,_,rfl,aP ⋯ ?_⟩;refine⟨_,rfl,rfl,_,rfl,aP ⋯ ?_⟩;refine⟨_,rfl,rfl,_,rfl,aP ⋯ ?_⟩;refine⟨_,rfl,rfl,_,rfl,aP ⋯ ?_⟩;refine⟨_,rfl,_,rfl,r,_,_,_,rfl,rfl,a9.of (s0 _ _ hP),rfl,_,rfl,_,rfl,_,rfl,_,rfl,_,rfl,?_⟩;cases fl with
  |true=>
   refine fu ?_;exact⟨a1,b,p1,bits,t,m,true,t',rest,rfl,fX.mono (.of s0),by omega,s0 _ _ hb,hlay,hz,λq2 b2 H2 s2 g3 g4=>q q2 b2 H2 (s0.trans s2) g3 g4⟩
  |false=>
   refine gM ?_;refine⟨_,rfl,rfl,?_⟩;exact⟨a1,b,p1,bits,t,m,true,t',rest,(by rw[show decide (V.str "flat"=V.str "flat")=true from ⋯];rfl),fX.mono (.of s0),by omega,s0 _ _ hb,hlay,hz,λq2 b2 H2 s2 g3 g4=>q q2 b2 H2 (s0.trans s2) g3 g4⟩
inductive KH(K:Frag)(vs:List V)(H:Hp)(Q:VK)(E':XK):Prop
 |mk (a:Addr) (ns:List Int) (k:Int) (z0:vs=[.ref a,.int k]) (z1:aG K H a (ns.map V.int)) (z2:ns.length<=63) (z3:∀(wd:Nat) (H':Hp),Same H H'->Q (.int (wd:Nat)) H'):KH K vs H Q E'
inductive Dq(vs:List V)(H:Hp)(Q:VK)(E':XK):Prop
 |mk (t:List Nat) (wd:Nat) (z0:vs=[.str (tx t),.int (wd:Nat)]) (z1:t.length<=900000) (z2:∀(c:Addr) (H':Hp),Same H H'->H' c=some (.tup [.int ((iw wd t:Nat):Int),.int ((gq t:Nat):Int)])->Q (.ref c) H'):Dq vs H Q E'
def vA(wd:Nat)(p:Plan)(H:Hp)(r:Addr)(s:List Int):Prop:=∃b,H r=some (.tup [.int ((iw wd (dg p s):Nat):Int),.int ((gq (dg p s):Nat):Int),.ref b,.str (tx (dg p s))])/\H b=some (.lst (s.map V.int))
theorem vA.mono{wd:Nat}  (h:Same H H'){r:Addr} : vA wd p H r s->vA wd p H' r s:=λ⟨b,e,q⟩=>⟨b,h _ _ e,h _ _ q⟩
def RY(wd:Nat)(p:Plan)(D:Addr)(H:Hp)(r:Addr)(s:List Int):Prop:=∃b,b≠D/\H r=some (.tup [.int ((iw wd (dg p s):Nat):Int),.int ((gq (dg p s):Nat):Int),.ref b,.str (tx (dg p s))])/\H b=some (.lst (s.map V.int))
inductive KJ(vs:List V)(H:Hp)(Q:VK)(E':XK):Prop
 |mk (r:Addr) (p:Plan) (wd:Nat) (z0:vs=[.ref r,.int (wd:Nat)]) (z1:aZ H p r) (z2:p.deep<=90) (z3:p.sides.length<=100000) (z4:p.size<=100000) (z5:p.leaves*(p.grow+1)<=400000) (z6:∀(l:Addr) (rs:List Addr) (H':Hp),Same H H'->H' l=some (.lst (rs.map V.ref))->Paired (vA wd p H') rs p.sides->Q (.ref l) H'):KJ vs H Q E'
inductive KN(vs:List V)(H:Hp)(Q:VK)(E':XK):Prop
 |mk (r:Addr) (p:Plan) (w:Nat) (z0:vs=[.ref r,.int (w:Nat)]) (z1:aZ H p r) (z2:p.Lay) (z3:p.Flat) (z4:p.deep<=60) (z5:p.size<=100000) (z6:(cO p).length<=600) (z7:p.size*(p.grow+1)<=16000000) (z8:p.grow<=100000) (z9:Ab w (aQ p false)) (KU:(∀s∈p.sides,gq (dg p s)<SB)) (KW:∀(ss:List Int) (k:Nat) (t:List Nat) (H':Hp),Same H H'->Best (cY w [(aQ p false,0)] 0) ss k->lay p ss [] 0 false=some (t,[])->Q (.str (tx t)) H'):KN vs H Q E'
theorem KQ  (h:s∈p.sides)(hz:p.leaves*(p.grow+1)<=400000):lay p s [] 0 false=some (dg p s,[])/\(dg p s).length<=400000:=by
 obtain⟨t,ht⟩:=(vy p s [] 0 false).mp h;have:=(rK p s [] [] t 0 false ht).2;rw[xr ht];refine⟨ht,?_⟩;have e:max (col []) 0+p.grow+1=p.grow+1:=by show max 0 0+_+_=_;omega
 rw[e] at this
 simp at this
 omega
theorem Zf:cQ ["_law_script","_law_k","_law_number"] ["_law_script","_law_k"] (cg Ho):=⟨rfl,rfl,rfl, ⋯,rfl, ⋯, ⋯⟩
theorem Sb{fm:Addr} (F:cA K "_law_width" "_law_width" Ho f fd)(GM:aH P w K mg base aB 2 fm md ["_law_script","_law_k"] (yJ K))(bM:Binds K md ["_law_script","_law_k"] [])(kM:keepIn K (.ref fm)=true)(mM:mg "_law_mix"=some (.ref fm)):
  aH P w K mg base aB 3 f fd ["_law_script","_law_k"] (KH K):=by
 refine F.cU Zf (λvs H Q E h=>?_) (λcdv A outer s H vs Q E hr h=>?_)
 ·obtain⟨a,ns,k,rfl,_⟩:=h
  rfl
 obtain⟨a,ns,k,rfl,hS,h63,q⟩:=h
 refine⟨_,au (aO (i:=2) Zf.nd rfl (Or.inl rfl) (c9 GM hr rfl mM kM bM .nil aU (aq (a6 0) (aq (a6 1) a7))))
  (aL (bx (aF gK (cX (aM ak (aM ak (aM ak (aM ak (aM ak (aM ak (iC (bK jE (bK pP (a6 2) ak) ak) a7)))))))) (bK jE (a6 2) ak) (λ_ _=>rfl)))),?_⟩
 refine⟨_,rfl,_,rfl,a,ns,k,rfl,hS,h63,?_⟩
 generalize mix ns k=m
 refine⟨_,rfl,_,_,rfl,rfl,⟨by decide,by decide⟩,_,_,rfl,rfl,(by show(0:Int)<60;decide),aC,λl hl=>?_⟩;have hb0:0<=m % 7:=Int.emod_nonneg _ (by decide);have hb1:m % 7<(([0,1,3,8,20,200,m / 7 % 60]:List Int).length:Int):=Int.emod_lt_of_pos _ (by decide);refine⟨_,rfl,_,_,rfl,rfl,(by show(0:Int)<7;decide),l,_,_,_,rfl,rfl,aG.of a8,Ul (ns:=[0,1,3,8,20,200,m / 7 % 60]) hb0 hb1,?_⟩;have hnn:∀i:Nat,0<=([0,1,3,8,20,200,m / 7 % 60]:List Int).getD i 0:=λi=>by
  have h6:0<=m / 7 % 60:=Int.emod_nonneg _ (by decide)
  match i with
  |0=>show(0:Int)<=0;decide
  |1=>show(0:Int)<=1;decide
  |2=>show(0:Int)<=3;decide
  |3=>show(0:Int)<=8;decide
  |4=>show(0:Int)<=20;decide
  |5=>show(0:Int)<=200;decide
  |6=>exact h6
  |n+7=>show(0:Int)<=0;decide
 have:=hnn (m % 7).toNat
 generalize ([0,1,3,8,20,200,m / 7 % 60]:List Int).getD (m % 7).toNat 0=v at this
 obtain⟨wn,rfl⟩:=Int.eq_ofNat_of_zero_le this
 exact q wn _ (ao hl _)
theorem Zg:cQ ["_law_text","_law_width_here","_law_over","_law_row"] ["_law_text","_law_width_here"] (cg Hi):=⟨rfl,rfl,rfl, ⋯,rfl, ⋯, ⋯⟩
theorem Se(F:cA K "_law_cost" "_law_cost" Hi f fd)(mm:mg "max"=none)(ml:mg "len"=none):aH P w K mg base aB 1 f fd ["_law_text","_law_width_here"] Dq:=by
 refine F.cU Zg (λvs H Q E h=>?_) (λcdv A outer s H vs Q E hr h=>?_)
 ·obtain⟨t,wd,rfl,_⟩:=h
  rfl
 obtain⟨t,wd,rfl,hz,q⟩:=h;have nd:=Zg.nd
 refine⟨_,au (aO (i:=2) nd rfl (Or.inl rfl) ak)<|
  au (lK PassesOwn.never rfl (nU (gG plainAttrs_str PySem.F.slot_str_split PySem.F.type_str_split tJ (a6 0) (aM aK a7))) (jX (i:=3) nd rfl (Or.inl rfl))
   (aL (aO (i:=2) nd rfl (Or.inl rfl) (bK iQ (a6 2) (j4 (Rj rfl) rfl mm boot_max (aM ak (iC (bK pO (j4 B7 rfl ml PySem.boot_len (aq (a6 3) a7)) (a6 1)) a7)))))))<|
  aL (bx (bf (aq (a6 2) (dw (gG plainAttrs_str PySem.F.slot_str_count PySem.F.type_str_count tN (a6 0) (aM aK a7)) a7)))),?_⟩
 have hrl:=Uk t;have e:(Txt.split (tx t) (Str.ofString "\n")).map V.str=(zk2 t).map (λr=>V.str (tx r)):=by rw[oU,Ui,map_map];rfl
 have hsl:(tx t).length+2<=sizeLine:=d4 (by rw[dz];omega);refine⟨_,rfl,rfl,_,_,rfl,rfl, ⋯,hsl,λl hl=>?_⟩;rw[e];have s1:=ao hl (.lst ((zk2 t).map λr=>V.str (tx r)));have el:(upd H l (.lst ((zk2 t).map λr=>V.str (tx r)))) l=some (.lst ((zk2 t).map λr=>V.str (tx r))):=a8
 refine⟨l,rfl,⟨_,aG.of el⟩,yd (K:=K) (a:=l) (xs:=(zk2 t).map λr=>V.str (tx r)) (λi σ H2=>H2=upd H l (.lst ((zk2 t).map λr=>V.str (tx r)))/\∃v3:Option V,σ=[some (.str (tx t)),some (.int (wd:Nat)),some (.int (((((zk2 t).take i).map λr=>r.length - wd).sum:Nat):Int)),v3])
  ⟨rfl,_,rfl⟩ (λi σ H2 _ ⟨e2,_⟩=>by rw[e2];exact aG.of el) ?_ ?_⟩
 ·rintro i x σ H2 hx ⟨rfl,v3,rfl⟩
  obtain⟨r,hr',rfl⟩:∃r,(zk2 t)[i]? = some r/\x=.str (tx r):=by
   rw[getElem?_map] at hx
   cases z:(zk2 t)[i]? with
   |none=>rw[z] at hx;cases hx
   |some r=>rw[z] at hx;cases hx;exact⟨r,rfl,rfl⟩
  have hrr:=xI t r (mem_of_getElem? hr');refine⟨_,rfl,_,rfl,_,rfl,d4 (by rw[dz];omega),_,rfl,_,_,rfl,rfl,_,_,rfl,_,_,rfl,rfl,rfl,some (.str (tx r)),?_⟩;have e5:(((((zk2 t).take i).map λr=>r.length - wd).sum:Nat):Int)+(if((tx r).length:Int) - ((wd:Nat):Int) > 0 then((tx r).length:Int) - ((wd:Nat):Int) else 0)=(((((zk2 t).take (i+1)).map λr=>r.length - wd).sum:Nat):Int):=by
   rw[zk3 hr',map_append,sum_append,dz];simp only[map_cons,map_nil,sum_cons,sum_nil]
   split<;>omega
  rw[<-e5];rfl
 ·rintro σ H2 ⟨rfl,v3,rfl⟩
  rw[length_map,take_length];refine⟨_,rfl,_,rfl,rfl,_,_,rfl,rfl,aC,λc hc=>?_⟩;refine q c _ (s1.trans (ao hc _)) ?_;rw[a8,oU,xF];have:=Yd t;have e6:(((zk2 t).length:Nat):Int) - 1=((gq t:Nat):Int):=by unfold gq;omega
  rw[e6];rfl
theorem Zh:cQ ["_law_plan","_law_width_here","_law_found","_law_row","_law_text"] ["_law_plan","_law_width_here"] (cg Hj):=⟨rfl,rfl,rfl, ⋯,rfl, ⋯, ⋯⟩
theorem Sf{fY fC:Addr}{yD:FuncData}(F:cA K "_law_all" "_law_all" Hj f fd)
  (GS:aH P w K mg base aB 91 fS sD pJ (yL 91)) (bS:Binds K sD pJ []) (kS:keepIn K (.ref fS)=true) (mS:mg "_law_sides"=some (.ref fS))
  (GY:aH P w K mg base aB 91 fY yD pK (Ai 91)) (bY:Binds K yD pK []) (kY:keepIn K (.ref fY)=true) (mY:mg "_law_lay"=some (.ref fY))
  (GC:aH P w K mg base aB 1 fC cD ["_law_text","_law_width_here"] Dq) (bC:Binds K cD ["_law_text","_law_width_here"] []) (kC:keepIn K (.ref fC)=true) (mC:mg "_law_cost"=some (.ref fC)):aH P w K mg base aB 92 f fd ["_law_plan","_law_width_here"] KJ:=by
 refine F.cU Zh (λvs H Q E h=>?_) (λcdv A outer s H vs Q E hr h=>?_)
 ·obtain⟨r,p,wd,rfl,_⟩:=h
  rfl
 obtain⟨r,p,wd,rfl,hP,hd,hsl,hsz,JV,q⟩:=h;have nd:=Zh.nd;have hr1:cZ 1 _:=hr.mono (by decide)
 refine⟨_,au (aO (i:=2) nd rfl (Or.inl rfl) (cX a7))<|
  au (lK PassesOwn.never rfl (nU (c9 GS hr rfl mS kS bS .nil aU (aq (a6 0) a7))) (jX (i:=3) nd rfl (Or.inl rfl))
   (au (aO (i:=4) nd rfl (Or.inl rfl) (aF aN (c9 GY hr rfl mY kY bY .nil aU (aq (a6 0) (aq (a6 3) (aM aK (aM ak (aM Bb a7)))))) ak (λ_ _=>rfl)))<|
   aL (fZ (gG plainAttrs_list PySem.F.slot_list_append PySem.F.type_list_append ju (a6 2) (iC (bK oI (c9 GC hr1 rfl mC kC bC .nil aU (aq (a6 4) (aq (a6 1) a7))) (bf (aq (a6 3) (aq (a6 4) a7)))) a7)))))<|
  aL (bx (a6 2)),?_⟩
 refine⟨aC,λD hD=>?_⟩;have s0:=ao hD (.lst []);refine⟨_,rfl,r,p,rfl,hP.mono (.of s0),hd,hsl,hsz,λrr H1 s1 hN=>?_⟩;obtain⟨as,hrr,Zi,Zj,nas⟩:=hN;have Si:rr≠D:=λz=>by rw[z,a8] at Zj;cases Zj
 have hD1:H1 D=some (.lst []):=s1 _ _ a8;have hal:=Paired.length Zi
 refine⟨rr,rfl,⟨_,aG.of hrr⟩,yd (K:=K) (a:=rr) (xs:=as.map V.ref) (λi σ H2=>∃(v3 v4:Option V) (rs:List Addr),σ=[some (.ref r),some (.int (wd:Nat)),some (.ref D),v3,v4]/\H2 D=some (.lst (rs.map V.ref))/\Paired (RY wd p D H2) rs (p.sides.take i)/\cB D H1 H2)
  ⟨_,_,[],rfl,hD1,by rw[take_zero];exact .nil,cB.refl⟩ (λi σ H2 _ ⟨_,_,_,_,_,_,b⟩=>aG.of (b _ _ hrr Si)) ?_ ?_⟩
 ·rintro i x σ H2 hx ⟨v3,v4,rs,rfl,hd2,hrs,b2⟩
  obtain⟨b,ss,rfl,hss,hb⟩:=Zi.get hx;have hmem:=mem_of_getElem? hss;have hi:i<p.sides.length:=(List.getElem?_eq_some_iff.mp hss).1;have KR:b≠D:=λz=>by
   have:=nas b (by have:=mem_of_getElem? hx;obtain⟨c,hc,e⟩:=List.mem_map.mp this;cases e;exact hc);rw[z,a8] at this;cases this
  have hb2:=b2 _ _ hb KR;have t2:bQ H H2:=λc xs e=>b2 _ _ ((s0.trans s1) _ _ e) (c6 e hD)
  obtain⟨ht,htl⟩:=KQ hmem JV;refine⟨_,rfl,_,rfl,r,b,p,ss,[],0,false,dg p ss,[],(by rw[qg];rfl),hP.mono t2,hd,hb2,ht,by omega,λq' b' H3 s3 e3 e3'=>?_⟩;refine⟨q',_,_,.str (tx (dg p ss)),rfl,rfl,a9.of e3,rfl,?_⟩;refine⟨_,rfl,.inl ⟨rfl,_,aG.of (s3 _ _ hd2)⟩,_,rfl,_,rfl,dg p ss,wd,rfl,by omega,λc H4 s4 e4=>?_⟩;refine⟨_,rfl,_,rfl,aC,λu hu=>?_⟩;have s5:=ao hu (.tup [.ref b,.str (tx (dg p ss))]);refine⟨c,u,_,_,rfl,rfl,a9.of (s5 _ _ e4),a9.of a8,by simp,(by show 2+2<=sizeLine;decide),(λz=>by cases z),λ_ v hv=>?_⟩;have s6:=ao hv (.tup ([.int ((iw wd (dg p ss):Nat):Int),.int ((gq (dg p ss):Nat):Int)]++[.ref b,.str (tx (dg p ss))]));have xP:Same H2 _:=s3.trans (s4.trans (s5.trans s6));have KY:=xP _ _ hd2;have D4:=xP _ _ hb2;have KZ:(upd (upd H4 u (.tup [.ref b,.str (tx (dg p ss))])) v (.tup ([.int ((iw wd (dg p ss):Nat):Int),.int ((gq (dg p ss):Nat):Int)]++[.ref b,.str (tx (dg p ss))]))) v=some (.tup [.int ((iw wd (dg p ss):Nat):Int),.int ((gq (dg p ss):Nat):Int),.ref b,.str (tx (dg p ss))]):=a8
  generalize upd (upd H4 u (.tup [.ref b,.str (tx (dg p ss))])) v (.tup ([.int ((iw wd (dg p ss):Nat):Int),.int ((gq (dg p ss):Nat):Int)]++[.ref b,.str (tx (dg p ss))]))=H6 at xP KY D4 KZ
  have hrl:=Paired.length hrs;rw[length_take] at hrl
  refine⟨D,_,_,rfl,rfl,KY,lt_of_lt_of_le (show(rs.map V.ref).length<1000001 by rw[length_map];omega) (d4 (by omega)),?_⟩;have Sj:v≠D:=cR KZ KY (by intro z;cases z);have keep:∀ {a:Addr} {ob:HO},H6 a=some ob->a≠D->(upd H6 D (.lst (rs.map V.ref++[.ref v]))) a=some ob:=λe h=>by rw[aJ h];exact e
  refine⟨_,_,rs++[v],rfl,by rw[a8,map_append];rfl,?_,λa ob e h=>keep (xP _ _ (b2 _ _ e h)) h⟩;rw[zk3 hss];exact iU (Paired.gJ hrs λr' s' ⟨bb,q0,q1,q2⟩=>⟨bb,q0,keep (xP _ _ q1) (cR q1 hd2 (by intro z;cases z)),keep (xP _ _ q2) q0⟩) (.cons ⟨b,KR,keep KZ Sj,keep D4 KR⟩ .nil)
 ·rintro σ H2 ⟨v3,v4,rs,rfl,hd2,hrs,b2⟩
  have e:(as.map V.ref).length=p.sides.length:=by rw[length_map,hal]
  rw[e,take_length] at hrs
  exact⟨_,rfl,q D rs H2 (λc ob eo=>b2 _ _ ((s0.trans s1) _ _ eo) (c6 eo hD)) hd2 (Paired.gJ hrs λ_ _ ⟨bb,_,q1,q2⟩=>⟨bb,q1,q2⟩)⟩
theorem Sl:cQ ["plan","width"] ["plan","width"] (cg Gz):=⟨rfl,rfl,rfl, ⋯,rfl, ⋯, ⋯⟩
theorem Sn{fC:Addr} (F:cA K "printed" "printed" Gz f fd)
  (GL:aH P w K mg base (jJ P w) 4 fL lD ["plan","bits"] (Kw CB)) (bL:Binds K lD ["plan","bits"] []) (kL:keepIn K (.ref fL)=true) (mL:mg "laid"=some (.ref fL))
  (GC:aH P w K mg base aB 10 fC cD ["plan","width"] JX) (bC:Binds K cD ["plan","width"] []) (kC:keepIn K (.ref fC)=true) (mC:mg "choose"=some (.ref fC)):aH P w K mg base aB 11 f fd ["plan","width"] KN:=by
 refine F.cU Sl (λvs H Q E h=>?_) (λcdv A outer s H vs Q E hr h=>?_)
 ·obtain⟨r,p,wd,rfl,_⟩:=h
  rfl
 obtain⟨r,p,wd,rfl,hP,hlay,Bg,hd,hz,hcp,hz2,hg,hfit,L0,q⟩:=h;refine⟨_,aL (bx (c9 GL (hr.mono (by decide)) rfl mL kL bL .nil sN (aq (a6 0) (cF (aF aN (c9 GC hr rfl mC kC bC .nil aU (aq (a6 0) (aq (a6 1) a7))) ak (λ_ _=>rfl)) a7)))),?_⟩;refine⟨_,rfl,_,rfl,_,rfl,r,p,wd,rfl,hP,hlay,hd,hz,hcp,by omega,hfit,λt l ss k H1 s1 e1 el hb=>?_⟩;refine⟨t,_,_,.ref l,rfl,rfl,a9.of e1,rfl,?_⟩;obtain⟨tt,i,ht,_⟩:=Yl Bg L0 hb;exact⟨r,l,p,ss,rfl,hP.mono (.of s1),el,Bg,hz2,by omega,hg,λt' ht' H2 s2=>q ss k t' H2 (s1.trans s2) hb ht',λhno=>absurd ht (hno tt)⟩
structure Sr(p:Plan):Prop where
 lay:p.Lay
 flat:p.Flat
 deep:p.deep<=60
 size:p.size<=100000
 cp:(cO p).length<=600
 sg:p.size*(p.grow+1)<=16000000
 grow:p.grow<=100000
 lg:p.leaves*(p.grow+1)<=400000
 fit:∀w,Ab w (aQ p false)
 sides:p.sides.length<=100000
 gq:∀s∈p.sides,gq (dg p s)<SB
theorem zm4 (h:d<=3):d=0\/d=1\/d=2\/d=3:=by omega
theorem Zk (ho:t.ok)(hd:t.deep<=3):Sr (bh jT t):=by
 have JS:o7 jT 10:=o7.jn 10;have l:=(sE Ve JS (by decide) uK (λ_ _=>le_refl _) (λd=>by show 3*(uK d+0)+9*(1+0)+8<=3*uK d+17;omega) _ t (le_refl _) ho hd).1;have g:=(sE Vf JS (by decide) uL (λ_ h=>h) (λd=>by show 3*(uL d+0)+9*(7+0)+8<=3*uL d+71;omega) _ t (le_refl _) ho hd).1;have z:=(sE Vg JS (by decide) uM (λ_ _=>le_refl _) (λd=>by show 2*(3*(uM d+1)+9*(1+1)+8)+2<=2*(3*(uM d+1)+26)+2;omega) _ t (le_refl _) ho hd).1;have np:=(sE Dx JS (by decide) BK (λ_ _=>le_refl _) (λd=>by show 3*(BK d+3)+9*(1+3)+8+1<=3*(BK d+3)+44+1;omega) _ t (le_refl _) ho hd).1;have cp:=(sE DA JS (by decide) BL (λ_ _=>le_refl _) (λd=>by show 3*(BL d+1)+9*(1+1)+8+1<=3*(BL d+1)+26+1;omega) _ t (le_refl _) ho hd).1;have dp:=(Vk (qx.jn 10) _ t (le_refl _) ho hd).1;have sd:=(Vp (i9.jn 10) (by decide) _ t (le_refl _) ho hd).1;have fl:=(Ip (DF 10) _ t (le_refl _) ho).1;have ly:=(Ip (DH 10) _ t (le_refl _) ho).1;have fw:=(KE (n:=10) (by decide) _ t (le_refl _) ho hd).1;have l:(bh jT t).leaves<=248:=le_trans l (by rcases zm4 hd with e|e|e|e<;>rw[e]<;>decide);have g:(bh jT t).grow<=1274:=le_trans g (by rcases zm4 hd with e|e|e|e<;>rw[e]<;>decide);have z:(bh jT t).size<=2796:=le_trans z (by rcases zm4 hd with e|e|e|e<;>rw[e]<;>decide);have np:jh (bh jT t)<=729:=le_trans np (by rcases zm4 hd with e|e|e|e<;>rw[e]<;>decide);have cp:yX (bh jT t)<=417:=le_trans cp (by rcases zm4 hd with e|e|e|e<;>rw[e]<;>decide);have dp:(bh jT t).deep<=51:=le_trans dp (by show 17*t.deep<=51;omega);have sd:(bh jT t).sides.length<=8192:=le_trans sd (by rcases zm4 hd with e|e|e|e<;>rw[e]<;>decide);have fl:(bh jT t).Flat:=fl;have ly:(bh jT t).Lay:=ly;have fw:Fw (bh jT t) (t.deep+1):=fw
 generalize bh jT t=p at l g z np cp dp sd fl ly fw
 have lg:p.leaves*(p.grow+1)<=400000:=le_trans (mul_le_mul l (add_le_add_right g 1)) (by decide);have nn:nS (aQ p false)*nN (aQ p false)<=16000000:=by
  have h1:=pF p false;have h2:=pG p false;exact le_trans (mul_le_mul (by rw[h1];exact sd) (le_trans h2 np)) (by decide)
 refine⟨ly,fl,by omega,by omega,by unfold yX at cp;omega,le_trans (mul_le_mul z (add_le_add_right g 1)) (by decide),by omega,lg,λw=>⟨fw.sm,le_trans (uX w _ 0 0) nn,le_trans (uY w _ 0 0) nn,by have:=tG p false;omega⟩,by omega,λs hs=>?_⟩;obtain⟨_,h2⟩:=KQ hs lg;have:=Uk (dg p s);have e:SB=1000000000000:=rfl;unfold Pq.gq;omega
inductive L5(vs:List V)(H:Hp)(Q:VK)(E':XK):Prop
 |mk (r:Addr) (t:Tr) (w:Nat) (z0:vs=[.ref r,.int (w:Nat)]) (z1:dh H t r) (z2:t.ok) (z3:t.deep<=3) (z4:∀(ss:List Int) (k:Nat) (x:List Nat) (H':Hp),Same H H'->Best (cY w [(aQ (bh jT t) false,0)] 0) ss k->lay (bh jT t) ss [] 0 false=some (x,[])->Q (.str (tx x)) H'):L5 vs H Q E'
theorem Sz:cQ ["tree","width"] ["tree","width"] (cg Hf):=⟨rfl,rfl,rfl, ⋯,rfl, ⋯, ⋯⟩
theorem SA  {dR:FuncData}(F:cA K "formatted" "formatted" Hf f fd)
  (GE:aH P w K mg base aB n fE dE ["tree"] (x9 4)) (bE:Binds K dE ["tree"] []) (kE:keepIn K (.ref fE)=true) (mE:mg "plan_of"=some (.ref fE))
  (GR:aH P w K mg base aB 11 fR dR ["plan","width"] KN) (bR:Binds K dR ["plan","width"] []) (kR:keepIn K (.ref fR)=true) (mR:mg "printed"=some (.ref fR)) (hn:11<=n):aH P w K mg base aB (n+1) f fd ["tree","width"] L5:=by
 refine F.cU Sz (λvs H Q E h=>?_) (λcdv A outer s H vs Q E hr h=>?_)
 ·obtain⟨r,t,wd,rfl,_⟩:=h
  rfl
 obtain⟨r,t,wd,rfl,hT,ho,hd,q⟩:=h;refine⟨_,aL (bx (c9 GR (hr.mono hn) rfl mR kR bR .nil aU (dw (c9 GE hr rfl mE kE bE .nil aU (aq (a6 0) a7)) (aq (a6 1) a7)))),?_⟩;refine⟨_,rfl,r,t,rfl,hT,ho,by omega,hd,λr1 H1 s1 P1=>?_⟩;have O:=Zk ho hd;exact⟨_,rfl,r1,_,wd,rfl,P1,O.lay,O.flat,O.deep,O.size,O.cp,O.sg,O.grow,O.fit wd,O.gq,λss k x H2 s2 hb hl=>q ss k x H2 (s1.trans s2) hb hl⟩
end Pq
namespace L2
open PySem PySem.Spec PyProof.Rows
section
variable {X:Cx}
def tU(g:List Int->Str)(H:Hp)(r:Addr)(x:xg):Prop:=∃l,H r=some (.tup [.int x.1,.int x.2.1,.ref l,.str (g x.2.2)])/\H l=some (.lst (x.2.2.map V.int))
theorem SC {g : List Int -> Str} {prog : Program} {w : World} {A : Around} {s : Shared} {H : Hp} (hok : eX prog w H s.heap) (hu : A.units + 4 < cLine) {r r' : Addr} {x y : xg} (hx : tU g H r x) (hy : tU g H r' y) (Q E : cJ) (h : Q (.bool (j7 x y)) s) : wpAny (model prog w) A (richCompare .Lt (.ref r) (.ref r')) Q E s := by
  obtain ⟨l, h1, h2⟩ := hx;obtain ⟨l', h3, h4⟩ := hy;obtain ⟨z1, its, r1, ⟨⟨cls, dd, data, sl⟩, ho, hc, n, hd⟩⟩ := hok r _ h1;obtain ⟨z2, its2, r2, ⟨⟨cls2, dd2, data2, sl2⟩, ho2, hc2, n2, hd2⟩⟩ := hok r' _ h3;obtain ⟨z3, li, m1, q1, e1⟩ := hok l _ h2;obtain ⟨z4, li2, m2, q2, e2⟩ := hok l' _ h4;simp only at hc hd hc2 hd2
  subst hc hd hc2 hd2;cases r1 with
  | cons a1 r1 =>
  cases r1 with
  | cons a2 r1 =>
  cases r1 with
  | cons a3 r1 =>
  cases r1 with
  | cons a4 r1 =>
  cases r1;cases r2 with
  | cons b1 r2 =>
  cases r2 with
  | cons b2 r2 =>
  cases r2 with
  | cons b3 r2 =>
  cases r2 with
  | cons b4 r2 =>
  cases r2;obtain ⟨t1, rfl⟩ := a1;obtain ⟨t2, rfl⟩ := a2;cases a3;obtain ⟨t4, rfl⟩ := a4;obtain ⟨u1, rfl⟩ := b1;obtain ⟨u2, rfl⟩ := b2;cases b3;obtain ⟨u4, rfl⟩ := b4;have i1 := zl5 q1;have i2 := zl5 q2;obtain ⟨as, ra⟩ := (DV.lst h2 (Fj x.2.2)).reads hok _ (.ref l) (.ref l) rfl;obtain ⟨bs, rb⟩ := (DV.lst h4 (Fj y.2.2)).reads hok _ (.ref l') (.ref l') rfl;have eL : SeqAt.EqAt A.in1 s (.ref l) (.ref l') (decide (x.2.2 = y.2.2)) := by
    have := SeqAt.eqAt_reads _ _ A.in1 s _ _ _ _ ra rb (Fi x.2.2) (Fi y.2.2) (by have := Tf x.2.2; have e : A.in1.units = A.units + 1 := rfl; omega);rw [sA] at this
    exact this
  have eS : SeqAt.EqAt A.in1 s (.str (g x.2.2) t4) (.str (g y.2.2) u4) (decide (g x.2.2 = g y.2.2)) := by
    have := SeqAt.EqAt.str_str (A := A.in1) (s := s) (g x.2.2) t4 (g y.2.2) u4;have e0 : (g x.2.2 == g y.2.2) = decide (g x.2.2 = g y.2.2) := by by_cases c : g x.2.2 = g y.2.2 <;> simp [c]
    rw [e0] at this; exact this
  let e : Nat -> Bool := λj => if j = 0 then decide (x.1 = y.1) else if j = 1 then decide (x.2.1 = y.2.1) else if j = 2 then decide (x.2.2 = y.2.2) else decide (g x.2.2 = g y.2.2)
  let rr : Nat -> Bool := λj => if j = 0 then j7 x y else if j = 1 then (if x.2.1 = y.2.1 then (if x.2.2 = y.2.2 then false else HT.lexLt x.2.2 y.2.2) else decide (x.2.1 < y.2.1)) else if j = 2 then (if x.2.2 = y.2.2 then false else HT.lexLt x.2.2 y.2.2) else if j = 3 then (if x.2.2 = y.2.2 then false else decide ((g x.2.2).cps.toList < (g y.2.2).cps.toList)) else false
  refine richCompare_meets_room (op := .Lt) ⟨_, ho, rfl⟩ ⟨_, ho2, rfl⟩ PySem.F.slot_tuple_lt PySem.F.entry_tuple_lt (PySem.F.args_tuple_lt_2 _ _) (NF r r' [Value.int x.1 t1, Value.int x.2.1 t2, Value.ref l, Value.str (g x.2.2) t4].toArray [Value.int y.1 u1, Value.int y.2.1 u2, Value.ref l', Value.str (g y.2.2) u4].toArray n n2 dd dd2 sl sl2 rfl e rr (λj hj qP => ?_) rfl) ⟨ho, ho2, λj hj1 hj2 => ?_, λj hj1 hj2 qP prog' w' E' Q' hq => ?_, show Value.bool (j7 x y) ≠ Value.notImplemented /\ Q (.bool (j7 x y)) s from ⟨(λx => nomatch x), h⟩⟩ (by omega)
  · have hj : j < 4 := hj
    match j, hj with
    | 0, _ =>
      have : x.1 = y.1 := of_decide_eq_true qP;show j7 x y = _;unfold j7;rw [if_pos this]; rfl
    | 1, _ =>
      have : x.2.1 = y.2.1 := of_decide_eq_true qP;show (if x.2.1 = y.2.1 then _ else _) = _;rw [if_pos this]; rfl
    | 2, _ =>
      have : x.2.2 = y.2.2 := of_decide_eq_true qP;show (if x.2.2 = y.2.2 then _ else _) = if x.2.2 = y.2.2 then _ else _
      rw [if_pos this, if_pos this]
    | 3, _ =>
      show (if x.2.2 = y.2.2 then false else decide ((g x.2.2).cps.toList < (g y.2.2).cps.toList)) = false;have : g x.2.2 = g y.2.2 := of_decide_eq_true qP
      split
      · rfl
      · rw [this]; exact decide_eq_false (List.lt_irrefl _)
  · have hj : j < 4 := hj1
    match j, hj with
    | 0, _ => have := SeqAt.EqAt.int_int (A := A.in1) (s := s) x.1 t1 y.1 u1; have e0 : (x.1 == y.1) = decide (x.1 = y.1) := by by_cases c : x.1 = y.1 <;> simp [c]
              rw [e0] at this; exact this
    | 1, _ => have := SeqAt.EqAt.int_int (A := A.in1) (s := s) x.2.1 t2 y.2.1 u2; have e0 : (x.2.1 == y.2.1) = decide (x.2.1 = y.2.1) := by by_cases c : x.2.1 = y.2.1 <;> simp [c]
              rw [e0] at this; exact this
    | 2, _ => exact eL
    | 3, _ => exact eS
  · have hj : j < 4 := hj1
    match j, hj with
    | 0, _ =>
      have c : ¬ x.1 = y.1 := of_decide_eq_false qP;have hq : Q' (.bool (j7 x y)) s := hq;unfold j7 at hq
      rw [if_neg c] at hq
      exact HT.Eu _ s x.1 t1 y.1 u1 prog' w' E' Q' hq
    | 1, _ =>
      have c : ¬ x.2.1 = y.2.1 := of_decide_eq_false qP;have hq : Q' (.bool (if x.2.1 = y.2.1 then _ else _)) s := hq;rw [if_neg c] at hq
      exact HT.Eu _ s x.2.1 t2 y.2.1 u2 prog' w' E' Q' hq
    | 2, _ =>
      have c : ¬ x.2.2 = y.2.2 := of_decide_eq_false qP;have hq : Q' (.bool (if x.2.2 = y.2.2 then _ else _)) s := hq;rw [if_neg c] at hq
      exact ND e1 e2 (by simpa using i1) (by simpa using i2) (by have e : A.in1.units = A.units + 1 := rfl; omega) E' Q' hq
    | 3, _ =>
      have c : ¬ x.2.2 = y.2.2 := λz => (of_decide_eq_false qP : ¬ g x.2.2 = g y.2.2) (by rw [z])
      have hq : Q' (.bool (if x.2.2 = y.2.2 then _ else _)) s := hq;rw [if_neg c] at hq
      exact (show wpAny _ _ (compareOp .Lt (.str _ _) (.str _ _)) Q' E' s from lt_str hq)
theorem L6{g:List Int->Str}{H:Hp}:∀ {rs:List Addr} {rows:List xg},Paired (tU g H) rs rows->∀(i:Nat) (r:Addr),rs[i]? = some r->∃x,rows[i]? = some x/\tU g H r x
 |_,_,.nil,i,r,e=>by simp at e
 |_,_,.cons q t,0,r,e=>by simp at e;subst e;exact⟨_,rfl,q⟩
 |_,_,.cons q t,i+1,r,e=>by
  obtain⟨x,h1,h2⟩:=L6 t i r (by simpa using e);exact⟨x,by simpa using h1,h2⟩
theorem SE(hc:X.calm=true)(hu:X.A.units+64<cLine):je X (.builtin "min") (λxs H Q=>∃(g:List Int->Str) (a:Addr) (rs:List Addr) (rows:List xg),xs=[.ref a]/\H a=some (.lst (rs.map V.ref))/\Paired (tU g H) rs rows/\rows≠[]/\
  ∀(r:Addr),rs[argBest (λi j=>j7 (rows.getD i (0,0,[])) (rows.getD j (0,0,[]))) (rows.length - 1)]? = some r->Q (.ref r) H):=by
 intro pins s σ H xs us Q I r h;obtain⟨g,a,rs,rows,rfl,ha,hp,hne,q⟩:=h;obtain⟨u,rfl,ru⟩:=zl2 r;cases ru;obtain⟨its,n,rv,e,z⟩:=I.lst ha;have hlen:=Paired.length hp;have hil:its.length=rs.length:=by have:=rv.length;rw[length_map] at this;exact this.symm
 have hn:0<rows.length:=by cases rows with|nil=>exact absurd rfl hne|cons _ _=>simp
 have item:∀(i:Nat) (v:Value),its.toArray[i]? = some v->∃r x,v=.ref r/\rs[i]? = some r/\rows[i]? = some x/\tU g H r x:=λi v hv=>by
  have hv:its[i]? = some v:=by simpa using hv
  have hi:i<rs.length:=by have:=(List.getElem?_eq_some_iff.mp hv).1;omega
  obtain⟨x,hx1,hx2⟩:=L6 hp i rs[i] (getElem?_eq_getElem hi);refine⟨rs[i],x,?_,getElem?_eq_getElem hi,hx1,hx2⟩;have:=Vals.get rv (i:=i) (x:=.ref rs[i]) (by rw[getElem?_map,getElem?_eq_getElem hi];rfl);obtain⟨u,hu1,hu2⟩:=this
  rw[hv] at hu1
  cases hu1;exact hu2
 refine NN (items:=its.toArray) (I.ok.hd hc) ⟨_,e,rfl,n,rfl⟩ (by rw[size_toArray];omega) (λi j=>j7 (rows.getD i (0,0,[])) (rows.getD j (0,0,[]))) (λi j vi vj s' Q' E' o hi hj hq=>?_) (λv h' tk hv o=>?_)
 ·obtain⟨ri,x,rfl,_,hx1,hx2⟩:=item i vi hi
  obtain⟨rj,y,rfl,_,hy1,hy2⟩:=item j vj hj;have hok':eX X.prog X.w H s'.heap:=I.hok.kept o;have hq:Q' (.bool (j7 (rows.getD i (0,0,[])) (rows.getD j (0,0,[])))) s':=hq;rw[getD_eq_getElem?_getD,getD_eq_getElem?_getD,hx1,hy1] at hq
  exact SC hok' (by have e:X.A.in1.units=X.A.units+1:=rfl;omega) hx2 hy2 Q' E' hq
 ·rw[size_toArray,hil,hlen] at hv
  obtain⟨ri,x,rfl,h1,_,_⟩:=item _ v hv;exact⟨.ref ri,H,I.kept (t':=tk) o,rfl,q ri h1⟩
end
end L2
namespace Pq
open PySem L2
variable {p q:Plan}{ps qs:List Plan}{a b:Nd}{l f D g dB aW la na ga C fL fN fS fR fP fO CN fM fW fE fA fG fJ fF dT CB:PySem.Addr}{m n i k τ c y d:Nat}{H H' H1 H2:L2.Hp}{P:PySem.Program}{w:PySem.World}{K:Frag}{mg:PySem.Str->Option PySem.Value}{base:PySem.Heap}{fd gd cD lD nD sD rD pD tD mD wD eD aD uD gD bD hD iD dP dO dE dJ dG md:PySem.FuncData}{xs ys:List L2.V}{as:List PySem.Addr}{x:cV}{t:Tr}{r:Sq}{L:List (Option Nat)}{T T':List Raw}{E:Es}{s:List Int}{ks:List Nat}{Ks bH:List Ent}{need ms U:List cV}
theorem Zm:cQ ["_law_script","_law_k","_law_deep","_law_most","_law_number","_law_way","_law_names","_law_some","_law_parts_here","_law_one"] oZ (cg Hl):=⟨rfl,rfl,rfl, ⋯,rfl, ⋯, ⋯⟩
theorem SF{most:Nat}{fm:Addr} (hn:2<=n)(zh8:most<=100)(F:cA K "_law_tree" "_law_tree" Hl f fd)(mF:mg "_law_tree"=some (.ref f))(bF:Binds K fd oZ [])(mr:mg "range"=none)(mt:mg "tuple"=none)
  (GM:aH P w K mg base aB 2 fm md ["_law_script","_law_k"] (yJ K)) (bM:Binds K md ["_law_script","_law_k"] []) (kM:keepIn K (.ref fm)=true) (mM:mg "_law_mix"=some (.ref fm))
  (G:aH P w K mg base aB n f fd oZ (wj K most d)):aH P w K mg base aB (n+1) f fd oZ (wj K most (d+1)):=by
 refine F.cU Zm (λvs H Q E h=>?_) (λcdv A outer s H vs Q E hr h=>?_)
 ·obtain⟨a,ns,k,rfl,_⟩:=h
  rfl
 obtain⟨a,ns,k,rfl,hS,h63,q⟩:=h;have hr2:cZ 2 _:=hr.mono hn;have nd:=Zm.nd
 refine⟨_,au (aO (i:=4) nd rfl (Or.inl rfl) (c9 GM hr2 rfl mM kM bM .nil aU (aq (a6 0) (aq (a6 1) a7))))<|
  au (aO (i:=5) nd rfl (Or.inl rfl) (bK jE (a6 4) ak))<|
  au (cN (PW.vN (vP (cI d8 (a6 2) ak (cP _)) (vO (cI d8 (a6 5) ak (cP _)))))
   (au (aO (i:=6) nd rfl (Or.inl rfl) (cX (aM aK (aM aK (aM aK (aM aK (aM aK a7)))))))<|
    au (aO (i:=7) nd rfl (Or.inl rfl) (cX (d0 (bf (aM aK (aM ak a7))) (d0 (bf (aM aK (aM ak a7))) (d0 (bf (aM aK (iC (bK jE (bK pP (a6 4) ak) ak) a7))) a7)))))<|
    aL (bx (jL (cI d8 (bK jE (bK pP (a6 4) ak) ak) ak (cP _)) (bf (aM aK (cF (aF gK (a6 6) (bK jE (bK pP (a6 4) ak) ak) (λ_ _=>rfl)) a7)))
     (aF gK (a6 7) (bK jE (bK pP (a6 4) ak) ak) (λ_ _=>rfl))))) cW)<|
  au (cN (cI vD (a6 5) ak (cP _))
   (au (TY (i:=8) (cl:=[("_law_script",s.heap.objs.size+1),("_law_most",s.heap.objs.size+4),("_law_k",s.heap.objs.size+2),("_law_deep",s.heap.objs.size+3)]) (ys:=["_law_script","_law_k","_law_deep","_law_most"]) (js:=[0,1,2,3]) nd rfl (Or.inl rfl) rfl
     (Fq rfl ⟨rfl,rfl,rfl,rfl,trivial⟩ (by decide) rfl ⋯ rfl ⋯ rfl ⟨⟨rfl,.inl rfl,⟨_,rfl⟩,.inl rfl⟩,⟨rfl,.inl rfl,⟨_,rfl⟩,.inl rfl⟩,⟨rfl,.inl rfl,⟨_,rfl⟩,.inl rfl⟩,⟨rfl,.inl rfl,⟨_,rfl⟩,.inl rfl⟩,trivial⟩)
     (TV rfl mr (iC (bK jE (bK pP (a6 4) ak) (bK iQ (a6 3) ak)) a7)) (λ_ _ _ _=>uw)
     (λ_ _ _ _=>c9 G hr rfl mF F.kp bF .nil aU (aq (a6 1) (iC (bK iQ (bK iQ (bK u9 ak (a6 2)) ak) (a6 0)) (iC (bK pO (a6 3) ak) (aq (a6 4) a7))))))<|
    aL (bx (jL (cI vD (a6 5) ak (cP _)) (bf (aM aK (cF (aF gK (cX (aM aK (aM aK (aM aK a7)))) (bK jE (bK pP (a6 4) ak) ak) (λ_ _=>rfl)) (dw (uz Sd rfl mt boot_tuple (aq (a6 8) a7)) a7))))
     (bf (aM aK (dw (uz Sd rfl mt boot_tuple (aq (a6 8) a7)) a7)))))) cW)<|
  au (aO (i:=9) nd rfl (Or.inl rfl) (c9 G hr rfl mF F.kp bF .nil aU (aq (a6 0) (iC (bK iQ (bK u9 ak (a6 1)) ak) (iC (bK pO (a6 2) ak) (aq (a6 3) a7))))))<|
  aL (bx (bf (cF (aF gK (cX (aM aK (aM aK (aM aK (aM aK a7))))) (bK pO (a6 5) ak) (λ_ _=>rfl)) (aq (a6 9) (dw (c9 G hr rfl mF F.kp bF .nil aU (aq (a6 0) (iC (bK iQ (bK u9 ak (a6 1)) ak) (iC (bK pO (a6 2) ak) (aq (a6 3) a7))))) a7))))),?_⟩
 have hm:=xa ns k;refine⟨_,rfl,_,rfl,a,ns,k,rfl,hS,h63,_,rfl,_,_,rfl,rfl,(by show(0:Int)<8;decide),?_⟩;have qd:∀(r:Addr) (H':Hp),Same H H'->dh H' (zk7 ns most d k) r->Q (.ref r) H':=q
 generalize hmm:mix ns k=m at hm ⊢
 have w0:0<=m % 8:=Int.emod_nonneg _ (by decide);have w1:m % 8<8:=Int.emod_lt_of_pos _ (by decide);have leaf:zk7 ns most d k=k8 m->∀(r:Addr) (H':Hp),Same H H'->dh H' (k8 m) r->Q (.ref r) H':=λz r H' s1 s2=>qd r H' s1 (by rw[z];exact s2)
 have SH:∀ {i j:Int},¬i=j->¬(decide (V.int i=V.int j)=true):=λh z=>h (V.int.inj (of_decide_eq_true z))
 have SL:∀ {i j:Int},i=j->decide (V.int i=V.int j)=true:=λh=>decide_eq_true (congrArg V.int h)
 have ediv:∀ {c:Int},0<=m / 16 % 5/\m / 16 % 5<5:=λ{c}=>⟨Int.emod_nonneg _ (by decide),Int.emod_lt_of_pos _ (by decide)⟩
 refine⟨_,rfl,rfl,_,rfl,?_⟩;refine jH (λc1 =>?g1) (λc1 =>?g2)
 case' g2=>refine⟨_,rfl,rfl,_,rfl,?_⟩
 case' g2=>refine jH (λc2 =>?g3) (λc2 =>?g4)
 case' g3=>
  have z:zk7 ns most d k=k8 m:=by
   have c3:m % 8=0:=V.int.inj (of_decide_eq_true c2);rw[<-hmm] at c3 ⊢
   cases d with
   |zero=>rfl
   |succ d=>unfold zk7;rw[if_pos c3]
 case' g1=>
  have z:zk7 ns most d k=k8 m:=by
   have c3:(d:Int)=0:=V.int.inj (of_decide_eq_true c1);have c4:d=0:=by omega
   subst c4;rw[<-hmm];rfl
  refine fu ?_
 case g1|g3=>
  replace leaf:=leaf z;refine⟨aC,λln L0=>?_⟩;have n1:=ao L0 (.lst [.str "a",.str "b",.str "xyz",.str "f",.str "abcdefghijklm"])
  refine⟨aC,λp1 hp1=>⟨aC,λp2 hp2=>⟨_,rfl,_,_,rfl,rfl,⟨by decide,by decide⟩,_,_,rfl,rfl,(by show(0:Int)<100000000000;decide),aC,λp3 hp3=>⟨aC,λls hls=>?_⟩⟩⟩⟩;have t1:=ao hp1 (.tup [.str "number",.int 0])
  have t2:=ao hp2 (.tup [.str "number",.int 7])
  have t3:=ao hp3 (.tup [.str "number",.int (m / 40 % 100000000000)])
  have t4:=ao hls (.lst [.ref p1,.ref p2,.ref p3]);have all:=n1.trans (t1.trans (t2.trans (t3.trans t4)));refine⟨_,rfl,_,_,rfl,rfl,⟨by decide,by decide⟩,_,_,rfl,rfl,(by show(0:Int)<2;decide),rfl,_,rfl,?_⟩
  by_cases hn0:m / 8 % 2=0
  ·refine cG (SL hn0) ?_
   refine⟨_,rfl,_,rfl,_,_,rfl,rfl,⟨by decide,by decide⟩,_,_,rfl,rfl,(by show(0:Int)<5;decide),ln,_,_,_,rfl,rfl,aG.of ((t1.trans (t2.trans (t3.trans t4))) _ _ a8),V6 (xs:=[Str.ofString "a",Str.ofString "b",Str.ofString "xyz",Str.ofString "f",Str.ofString "abcdefghijklm"]) CF (ediv (c:=0)).1 (ediv (c:=0)).2,aC,λt ht=>?_⟩
   refine leaf t _ (all.trans (ao ht _)) ?_;unfold k8;rw[if_pos hn0];exact a8
  ·refine aP (SH hn0) ?_
   have j0:0<=m / 16 % 3:=Int.emod_nonneg _ (by decide);have j1:m / 16 % 3<3:=Int.emod_lt_of_pos _ (by decide);refine⟨_,rfl,_,rfl,_,_,rfl,rfl,⟨by decide,by decide⟩,_,_,rfl,rfl,(by show(0:Int)<3;decide),?_⟩;have hi:m / 16 % 3=0\/m / 16 % 3=1\/m / 16 % 3=2:=by omega
   rcases hi with hi|hi|hi
   ·refine⟨ls,_,_,.ref p1,rfl,rfl,aG.of a8,yK j0 (by rw[hi];rfl),leaf p1 _ all ?_⟩
    unfold k8;rw[if_neg hn0,if_pos hi];exact t4 _ _ (t3 _ _ (t2 _ _ a8))
   ·refine⟨ls,_,_,.ref p2,rfl,rfl,aG.of a8,yK j0 (by rw[hi];rfl),leaf p2 _ all ?_⟩
    unfold k8;rw[if_neg hn0,if_neg (by rw[hi];decide),if_pos hi];exact t4 _ _ (t3 _ _ a8)
   ·refine⟨ls,_,_,.ref p3,rfl,rfl,aG.of a8,yK j0 (by rw[hi];rfl),leaf p3 _ all ?_⟩
    unfold k8;rw[if_neg hn0,if_neg (by rw[hi];decide),if_neg (by rw[hi];decide)];have Ad:(((m / 40 % 100000000000).toNat:Nat):Int)=m / 40 % 100000000000:=Int.toNat_of_nonneg (Int.emod_nonneg _ (by decide));show _=some (HO.tup [.str "number",.int (((m / 40 % 100000000000).toNat:Nat):Int)])
    rw[Ad];exact t4 _ _ a8
 case g4=>
  have w2:¬m % 8=0:=λe=>c2 (decide_eq_true (congrArg V.int e))
  have d1:¬(d:Int)=0:=λe=>c1 (decide_eq_true (congrArg V.int e))
  cases d with
  |zero=>exact absurd rfl d1
  |succ d=>
   have ed:((d+1:Nat):Int) - 1=(d:Int):=by omega
   have zh9:∀(k':Int) (H1:Hp),Same H H1->(∀(r:Addr) (H':Hp),Same H1 H'->dh H' (zk7 ns most d k') r->Q (.ref r) H')->True:=λ_ _ _ _=>trivial
   refine⟨_,rfl,_,_,rfl,rfl,_,rfl,?_⟩;refine jH (λc4=>?_) (λc4=>?_)
   ·have Dr:m % 8<4:=of_decide_eq_true c4
    have p0:(0:Int)<(most:Int)+1:=by omega
    have b0:0<=m / 8 % ((most:Int)+1):=Int.emod_nonneg _ (by omega);have b1:m / 8 % ((most:Int)+1)<(most:Int)+1:=Int.emod_lt_of_pos _ p0;refine⟨_,rfl,_,_,rfl,rfl,⟨by decide,by decide⟩,_,rfl,_,_,rfl,rfl,_,_,rfl,rfl,p0,_,rfl,by omega,by omega,λL hL=>?_⟩;refine uj (λi H5 ys=>∃as:List Addr,ys=as.map V.ref/\Same H H5/\H5 L=some (.lst ys)/\dZ H5 ((List.range i).map λj:Nat=>zk7 ns most d (4*k+1+(0+(j:Int)))) as) ⟨[],rfl,ao hL _,a8,rfl⟩ ?_ ?_
    ·rintro i H5 ys hi ⟨as,rfl,s5,e5,p5⟩
     have hal:=p5.len;rw[length_map,List.length_range] at hal
     refine⟨_,rfl,_,rfl,_,_,rfl,rfl,.inl ⟨by decide,by decide⟩,_,_,rfl,rfl,_,rfl,_,_,rfl,rfl,_,rfl,_,_,rfl,rfl,_,rfl,a,ns,4*k+1+(0+(i:Int)),(by show[V.ref a,V.int (4*k+1+(0+(i:Int))),V.int (((d+1:Nat):Int) - 1),V.int ((most:Nat):Int)]=_;rw[ed]),s5.seq hS,h63,λr H6 s6 P6=>?_⟩;refine⟨s6 _ _ e5,SQ (by rw[length_map];omega),as++[r],by rw[map_append];rfl,k6 (s5.trans s6) hL _,a8,?_⟩;have u:bQ H6 (upd H6 L (.lst (as.map V.ref++[.ref r]))):=dX (s6 _ _ e5);rw[List.range_succ,map_append];exact dZ.snoc (dZ.mono ((bQ.of s6).trans u) p5) (P6.mono u)
    rintro H1 ys ⟨as,rfl,s1,e1,p1⟩
    refine⟨_,rfl,_,_,rfl,rfl,_,rfl,?_⟩;refine jH (λc5=>?_) (λc5=>?_)
    ·have L7:m % 8<3:=of_decide_eq_true c5
     have i0:0<=m / 64 % 3:=Int.emod_nonneg _ (by decide);have i1:m / 64 % 3<3:=Int.emod_lt_of_pos _ (by decide);refine⟨aC,λl2 hl2=>?_⟩;have t2:=ao hl2 (.lst [.str "f",.str "gg",.str "print"])
     refine⟨_,rfl,_,_,rfl,rfl,⟨by decide,by decide⟩,_,_,rfl,rfl,(by show(0:Int)<3;decide),l2,_,_,_,rfl,rfl,aG.of a8,V6 (xs:=[Str.ofString "f",Str.ofString "gg",Str.ofString "print"]) CH i0 i1,?_⟩
     refine⟨_,rfl,L,_,rfl,.inl ⟨aG.of (t2 _ _ e1),λl3 hl3=>?_⟩⟩;have t3:=ao hl3 (.tup (as.map V.ref));refine⟨aC,λt ht=>?_⟩;have t4:=ao ht (.tup [.str "call",.str (tx (yV.getD (m / 64 % 3).toNat [])),.ref l3])
     refine qd t _ (s1.trans (t2.trans (t3.trans t4))) ?_;unfold zk7;rw[hmm,if_neg w2,if_pos Dr,if_pos L7];exact⟨l3,as,a8,t4 _ _ a8,dZ.mono (.of (t2.trans (t3.trans t4))) p1⟩
    ·have L7:¬m % 8<3:=λe=>c5 (decide_eq_true e)
     refine⟨_,rfl,L,_,rfl,.inl ⟨aG.of e1,λl3 hl3=>?_⟩⟩;have t3:=ao hl3 (.tup (as.map V.ref));refine⟨aC,λt ht=>?_⟩;have t4:=ao ht (.tup [.str "row",.ref l3])
     refine qd t _ (s1.trans (t3.trans t4)) ?_;unfold zk7;rw[hmm,if_neg w2,if_pos Dr,if_neg L7];exact⟨l3,as,a8,t4 _ _ a8,dZ.mono (.of (t3.trans t4)) p1⟩
   ·have Dr:¬m % 8<4:=λe=>c4 (decide_eq_true e)
    refine⟨_,rfl,_,rfl,_,_,rfl,rfl,.inl ⟨by decide,by decide⟩,_,_,rfl,rfl,_,rfl,_,_,rfl,rfl,_,rfl,a,ns,4*k+1,(by show[V.ref a,V.int (4*k+1),V.int (((d+1:Nat):Int) - 1),V.int ((most:Nat):Int)]=_;rw[ed]),hS,h63,λr1 H1 s1 P1=>?_⟩;refine⟨aC,λl hl=>?_⟩;have t1:=ao hl (.lst [.str "+",.str "-",.str "*",.str "*"])
    refine⟨_,rfl,_,_,rfl,rfl,l,_,_,_,rfl,rfl,aG.of a8,CM (by omega) (by omega),_,rfl,?_⟩;refine⟨_,rfl,_,rfl,_,_,rfl,rfl,.inl ⟨by decide,by decide⟩,_,_,rfl,rfl,_,rfl,_,_,rfl,rfl,_,rfl,a,ns,4*k+2,(by show[V.ref a,V.int (4*k+2),V.int (((d+1:Nat):Int) - 1),V.int ((most:Nat):Int)]=_;rw[ed]),(s1.trans t1).seq hS,h63,λr2 H2 s2 P2=>?_⟩;refine⟨aC,λt ht=>?_⟩;have t4:=ao ht (.tup [.str (tx [qu.getD (m % 8 - 4).toNat 0]),.ref r1,.ref r2]);refine qd t _ (s1.trans (t1.trans (s2.trans t4))) ?_;unfold zk7;rw[hmm,if_neg w2,if_neg Dr];exact⟨r1,r2,a8,P1.mono (.of (t1.trans (s2.trans t4))),P2.mono (.of t4)⟩
theorem SR(xs ys:List Str):PyData.eqv (.list (xs.map .str)) (.list (ys.map .str))=decide (xs=ys):=by
 show PyData.eqvAll _ _=_
 induction xs generalizing ys with
 |nil=>cases ys<;>simp[PyData.eqvAll]
 |cons x xs ih=>
  cases ys with
  |nil=>simp[PyData.eqvAll]
  |cons y ys=>
   show(PyData.eqv (.str x) (.str y)&&PyData.eqvAll (xs.map .str) (ys.map .str))=_;rw[ih];show((x==y)&&decide (xs=ys))=decide (x::xs=y::ys)
   by_cases h1:x=y<;>by_cases h2:xs=ys<;>simp[h1,h2]
theorem L8:∀ts:List (List Nat),(∀t∈ts,Sm t)->PyData.canLay0 (.list ((ts.map tx).map .str))=true
 |[],_=>rfl
 |t::ts,h=>by
  show(PyData.canLay0 (.str (tx t))&&PyData.canLayAll0 ((ts.map tx).map .str))=true;rw[and_eq_true];refine⟨?_,L8 ts λu hu=>h u (mem_cons_of_mem _ hu)⟩;show(t.toArray.all λc=>decide (c<0x110000))=true;rw[Array.all_eq_true'];intro c hc;exact decide_eq_true (h t mem_cons_self c (by simpa using hc))
theorem Zn:∀xs:List Str,PyData.depth (.list (xs.map .str))<=1
 |[]=>le_refl _
 |x::xs=>by
  have:=Zn xs;show max 0 (PyData.depthAll (xs.map .str))+1<=1;have h2:PyData.depthAll (xs.map .str)+1<=1:=this
  omega
theorem L9{H:Hp}:∀ts:List (List Nat),mZ H (ts.map λt=>V.str (tx t)) ((ts.map tx).map PyData.str)
 |[]=>.nil
 |t::ts=>.cons (.str _) (L9 ts)
theorem SU:∀i:Nat,(names5.getD i []).length<=13/\∀c∈names5.getD i [],32<c/\c<128
 |0=>by decide
 |1=>by decide
 |2=>by decide
 |3=>by decide
 |4=>by decide
 |n+5=>⟨zero_le _,λc hc=>nomatch hc⟩
theorem SV:∀i:Nat,(yV.getD i []).length<=5/\∀c∈yV.getD i [],32<c/\c<128
 |0=>by decide
 |1=>by decide
 |2=>by decide
 |n+3=>⟨zero_le _,λc hc=>nomatch hc⟩
theorem SW:∀i:Nat,i<4->qu.getD i 0=43\/qu.getD i 0=45\/qu.getD i 0=42:=by decide
theorem Zo(m:Int):(k8 m).ok:=by
 unfold k8
 split
 ·rw[Tr.ok];exact SU _
 ·split
  ·rw[Tr.ok];decide
  ·split
   ·rw[Tr.ok];decide
   ·rw[Tr.ok]
    have:=Int.emod_lt_of_pos (m / 40) (show(0:Int)<100000000000 by decide);omega
theorem Zq{f:Nat->Tr}(h:∀j,(f j).ok):∀l:List Nat,Tr.j9 (l.map f)
 |[]=>by rw[map_nil,Tr.j9];exact trivial
 |j::l=>by rw[map_cons,Tr.j9];exact⟨h j,Zq h l⟩
theorem Aj(ns:List Int)(most:Nat)(hm:most<=3):∀(d:Nat) (k:Int),(zk7 ns most d k).ok
 |0,k=>Zo _
 |d+1,k=>by
  have hl:((List.range (mix ns k / 8 % ((most:Int)+1)).toNat).map λj:Nat=>zk7 ns most d (4*k+1+(0+(j:Int)))).length<=3:=by
   rw[length_map,List.length_range];have:=Int.emod_lt_of_pos (mix ns k / 8) (show(0:Int)<(most:Int)+1 by omega);omega
  have ho:Tr.j9 ((List.range (mix ns k / 8 % ((most:Int)+1)).toNat).map λj:Nat=>zk7 ns most d (4*k+1+(0+(j:Int)))):=Zq (λj=>Aj ns most hm d _) _;have w0:0<=mix ns k % 8:=Int.emod_nonneg _ (by decide);have w1:mix ns k % 8<8:=Int.emod_lt_of_pos _ (by decide);unfold zk7
  split
  ·exact Zo _
  ·split
   ·split
    ·rw[Tr.ok];exact⟨SV _,hl,ho⟩
    ·rw[Tr.ok];exact⟨hl,ho⟩
   ·rw[Tr.ok];exact⟨SW _ (by omega),Aj ns most hm d _,Aj ns most hm d _⟩
structure SY(p:Plan):Prop where
 deep:p.deep<=90
 sides:p.sides.length<=100000
 size:p.size<=100000
 lg:p.leaves*(p.grow+1)<=400000
theorem SZ (ho:t.ok)(hd:t.deep<=3):SY (bh aY t):=by
 have JS:o7 aY 10:=o7.aY 10;have l:=(sE Ve JS (by decide) uK (λ_ _=>le_refl _) (λd=>by show 3*(uK d+0)+9*(1+0)+8<=3*uK d+17;omega) _ t (le_refl _) ho hd).1;have g:=(sE Vf JS (by decide) uL (λ_ h=>h) (λd=>by show 3*(uL d+0)+9*(7+0)+8<=3*uL d+71;omega) _ t (le_refl _) ho hd).1;have z:=(sE Vg JS (by decide) uM (λ_ _=>le_refl _) (λd=>by show 2*(3*(uM d+1)+9*(1+1)+8)+2<=2*(3*(uM d+1)+26)+2;omega) _ t (le_refl _) ho hd).1;have dp:=(Vk qx.aY _ t (le_refl _) ho hd).1;have sd:=(Vp (i9.aY 10) (by decide) _ t (le_refl _) ho hd).1;have l:(bh aY t).leaves<=248:=le_trans l (by rcases zm4 hd with e|e|e|e<;>rw[e]<;>decide);have g:(bh aY t).grow<=1274:=le_trans g (by rcases zm4 hd with e|e|e|e<;>rw[e]<;>decide);have z:(bh aY t).size<=2796:=le_trans z (by rcases zm4 hd with e|e|e|e<;>rw[e]<;>decide);have dp:(bh aY t).deep<=87:=le_trans dp (by show 29*t.deep<=87;omega);have sd:(bh aY t).sides.length<=8192:=le_trans sd (by rcases zm4 hd with e|e|e|e<;>rw[e]<;>decide);exact⟨by omega,by omega,by omega,le_trans (mul_le_mul l (add_le_add_right g 1)) (by decide)⟩
theorem Ta(n:Nat):All (jn n) Plan.lO:=⟨λps _ h=>xx n ps h,λs h c hc=>by have:=h c hc;omega,trivial,trivial,λ_ h=>h,λ_ h=>h,λ_ h=>⟨h,h⟩⟩
theorem Tl (ho:t.ok)(hd:t.deep<=3):b9 (bh jT t) (bh aY t):=(BJ (n:=10) (by decide) (i9.jn 10) (i9.aY 10) t ho hd).1
theorem La (h:b9 p q)(s:List Int):dg p s=dg q s:=by unfold dg;rw[h.ly]
inductive Ak(K:Frag)(vs:List V)(H:Hp)(Q:VK)(E':XK):Prop
 |mk (a:Addr) (ns:List Int) (z0:vs=[.ref a]) (z1:aG K H a (ns.map V.int)) (z2:ns.length<=63) (z3:∀H',Q (.bl true) H'):Ak K vs H Q E'
theorem Zr  {a : Addr} {τ : St}  {Q : Hp -> Prop} {wd : Nat}  {rs : List Addr} (ha : H1 a = some (.lst (rs.map V.ref))) (hr : Paired (vA wd p H1) rs p.sides) (hz : p.sides.length <= 100000) (hD : H1 D = none)
    (q : ∀ H2, Same H1 H2 -> H2 D = some (.lst ((p.sides.map λs => dg p s).map λx => V.str (tx x))) -> Q H2) :
    ∃ W : Nat -> Nat -> Hp -> List V -> Prop, (∃ m, W 0 m (upd H1 D (.lst [])) []) /\ ∀ i m H' ys, W i m H' ys ->
      ((j3 K a).stop i H' /\ Q H') \/ ((j3 K a).go i H' /\ ∃ N : Hp -> List V -> Prop, (∀ H' ys', N H' ys' -> ∃ m', m' < m /\ W (i + 1) m' H' ys') /\ ∀ x H2, (j3 K a).jC i H' x H2 -> ur (some x :: τ) H2 λb H4 =>
        if b = true then qU (um K) (jB 0) (tC (.int 3)) (some x :: τ) H4 λy H5 => H5 D = some (.lst ys) /\ ys.length < sizeLine /\ N (upd H5 D (.lst (ys ++ [y]))) (ys ++ [y])
        else N H4 ys) := by
  have hlen := Paired.length hr;refine Fg (K := K) (a := a) (xs := rs.map V.ref) (λj H4 ys => ys = ((p.sides.take j).map λs => dg p s).map (λx => V.str (tx x)) /\ H4 D = some (.lst ys) /\ Same H1 H4)
    ⟨by rw [take_zero]; rfl, a8, ao hD _⟩ (λj H4 ys _ ⟨_, _, s⟩ => aG.of (s _ _ ha)) (λj x H4 ys hx ⟨ey, e4, s4⟩ => ?_) (λH4 ys ⟨ey, e4, s4⟩ => ?_)
  · obtain ⟨rj, sj, rfl, jj, bb, h1, h2⟩ := wW hr hx
    have hj : j < p.sides.length := (List.getElem?_eq_some_iff.mp jj).1;refine ⟨_, rfl, rj, _, _, .str (tx (dg p sj)), rfl, rfl, a9.of (s4 _ _ h1), rfl, e4, ?_, ?_, a8, k6 s4 hD _⟩
    · rw [ey, length_map, length_map, length_take]
      exact lt_of_lt_of_le (show _ < 1000001 by omega) (d4 (by omega))
    · rw [zk3 jj, map_append, map_append, ey]; rfl
  · rw [length_map, hlen, take_length] at ey
    exact q H4 s4 (by rw [e4, ey])
theorem Zt:cQ ["_law_script","_law_tree_here","_law_width_here","_law_plan","_law_rows","_law_due"] ["_law_script"] (cg Hu):=⟨rfl,rfl,rfl, ⋯,rfl, ⋯, ⋯⟩
theorem To{fT:Addr}{fD:FuncData}(F:cA K "law" "law" Hu f fd)(Ts:mg "min"=none)
  (Tx:aH P w K mg base aB 6 fT tD oZ (wj K 3 3)) (TB:aH P w K mg base aB 7 fT tD oZ (wj K 2 4)) (bT:Binds K tD oZ []) (kT:keepIn K (.ref fT)=true) (mT:mg "_law_tree"=some (.ref fT))
  (GM:aH P w K mg base aB 2 fM mD ["_law_script","_law_k"] (yJ K)) (bM:Binds K mD ["_law_script","_law_k"] []) (kM:keepIn K (.ref fM)=true) (mM:mg "_law_mix"=some (.ref fM))
  (GW:aH P w K mg base aB 3 fW wD ["_law_script","_law_k"] (KH K)) (bW:Binds K wD ["_law_script","_law_k"] []) (kW:keepIn K (.ref fW)=true) (mW:mg "_law_width"=some (.ref fW))
  (GL:aH P w K mg base aB 20 fL lD ["_law_tree_here"] (Ag 4)) (bL:Binds K lD ["_law_tree_here"] []) (kL:keepIn K (.ref fL)=true) (mL:mg "_law_plan_of"=some (.ref fL))
  (GA:aH P w K mg base aB 92 fA aD ["_law_plan","_law_width_here"] KJ) (bA:Binds K aD ["_law_plan","_law_width_here"] []) (kA:keepIn K (.ref fA)=true) (mA:mg "_law_all"=some (.ref fA))
  (GF:aH P w K mg base aB 30 fF fD ["tree","width"] L5) (bF:Binds K fD ["tree","width"] []) (kF:keepIn K (.ref fF)=true) (mF:mg "formatted"=some (.ref fF))
  (GE:aH P w K mg base aB 29 fE eD ["tree"] (x9 4)) (bE:Binds K eD ["tree"] []) (kE:keepIn K (.ref fE)=true) (mE:mg "plan_of"=some (.ref fE)):
  aH P w K mg base aB 93 f fd ["_law_script"] (Ak K):=by
 refine F.cU Zt (λvs H Q E h=>?_) (λcdv A outer s H vs Q E hr h=>?_)
 ·obtain⟨a,ns,rfl,_⟩:=h
  rfl
 obtain⟨a,ns,rfl,hS,h63,q⟩:=h;have nd:=Zt.nd;have hu:=hr.units;have rm:∀k,k<=92->cZ k _:=λk hk=>hr.mono hk
 refine⟨_,au (aO (i:=1) nd rfl (Or.inl rfl) (jL (cI d8 (bK jE (c9 GM (rm 2 (by decide)) rfl mM kM bM .nil aU (aq (a6 0) (aM ak a7))) ak) ak (cP _)) (c9 Tx (rm 6 (by decide)) rfl mT kT bT .nil aU (aq (a6 0) (aM ak (aM ak (aM ak a7))))) (c9 TB (rm 7 (by decide)) rfl mT kT bT .nil aU (aq (a6 0) (aM ak (aM ak (aM ak a7)))))))<|
  au (aO (i:=2) nd rfl (Or.inl rfl) (c9 GW (rm 3 (by decide)) rfl mW kW bW .nil aU (aq (a6 0) (aM ak a7))))<|
  au (aO (i:=3) nd rfl (Or.inl rfl) (c9 GL (rm 20 (by decide)) rfl mL kL bL .nil aU (aq (a6 1) a7)))<|
  au (aO (i:=4) nd rfl (Or.inl rfl) (c9 GA hr rfl mA kA bA .nil aU (aq (a6 3) (aq (a6 2) a7))))<|
  au (aO (i:=5) nd rfl (Or.inl rfl) (aF aN (j4 (SE rfl hu) rfl Ts boot_min (aq (a6 4) a7)) ak (λ_ _=>rfl)))<|
  au (cN (cI kz (c9 GF (rm 30 (by decide)) rfl mF kF bF .nil aU (aq (a6 1) (aq (a6 2) a7))) (a6 5) (cP _)) (aL (bx Bb)) cW)<|
  aL (bx (vQ (Td hu) (vU rfl (Bk (by decide) rfl rfl ⋯) (nU (c9 GA hr rfl mA kA bA .nil aU (dw (c9 GE (rm 29 (by decide)) rfl mE kE bE .nil aU (aq (a6 1) a7)) (aq (a6 2) a7)))) (λ_ _ _ _=>uw) (λ_ _ _ _=>aF (show vH _ (um K) from aN) (a6 0) ak (λ_ _=>rfl)))
   (vU rfl (Bk (by decide) rfl rfl ⋯) (nU (a6 4)) (λ_ _ _ _=>uw) (λ_ _ _ _=>aF (show vH _ (um K) from aN) (a6 0) ak (λ_ _=>rfl))) (cP _))),?_⟩
 refine⟨_,rfl,a,ns,60,rfl,hS,h63,_,_,rfl,rfl,(by show(0:Int)<2;decide),rfl,_,rfl,?_⟩;refine jH (λc =>?g1) (λc =>?g2)
 case' g1=>
  refine⟨_,rfl,a,ns,1,rfl,hS,h63,λr H1 s1 P1=>?_⟩;have ho:=Aj ns 3 (by decide) 2 1;have hd:(zk7 ns 3 2 1).deep<=3:=le_trans (yW ns 3 2 1) (by decide)
  generalize zk7 ns 3 2 1=t at ho hd P1
 case' g2=>
  refine⟨_,rfl,a,ns,1,rfl,hS,h63,λr H1 s1 P1=>?_⟩;have ho:=Aj ns 2 (by decide) 3 1;have hd:(zk7 ns 2 3 1).deep<=3:=yW ns 2 3 1
  generalize zk7 ns 2 3 1=t at ho hd P1
 case g1|g2=>
  have O:=Zk ho hd;have OL:=SZ ho hd;have EQ:=Tl ho hd;have Lb:=(Ip (Ta 10) _ t (le_refl _) ho).1;have Lb:(bh jT t).lO:=Lb;refine⟨_,rfl,a,ns,61,rfl,s1.seq hS,h63,λwd H2 s2=>?_⟩;have P2:=P1.mono (.of s2);refine⟨_,rfl,r,t,rfl,P2,ho,by omega,hd,λrp H3 s3 P3=>?_⟩;refine⟨_,rfl,_,rfl,rp,_,wd,rfl,P3,OL.deep,OL.sides,OL.size,OL.lg,λl rs H4 s4 e4 R4=>?_⟩;have P4:=(P2.mono (.of s3)).mono (.of s4);have hne:(bh aY t).sides.map (nM wd (bh aY t))≠[]:=λz=>rJ _ (List.map_eq_nil_iff.mp z)
  have RR:Paired (tU (λs=>tx (dg (bh aY t) s)) H4) rs ((bh aY t).sides.map (nM wd (bh aY t))):=by
   have:=Af (R:=vA wd (bh aY t) H4) (S:=tU (λs=>tx (dg (bh aY t) s)) H4) (g:=id) (h:=nM wd (bh aY t)) (λr s ⟨b,h1,h2⟩=>⟨b,h1,h2⟩) R4
   rwa [map_id] at this
  have hrl:=Paired.length R4;have esd:=EQ.sd;have TC:nM wd (bh jT t)=nM wd (bh aY t):=by
   funext s
   unfold nM;rw[La EQ]
  refine⟨_,rfl,_,l,rs,_,rfl,e4,RR,hne,λrm hrm=>?_⟩;obtain⟨x0,hx0,bb,hb1,hb2⟩:=L6 RR _ rm hrm;refine⟨rm,_,_,.str (tx (dg (bh aY t) x0.2.2)),rfl,rfl,a9.of hb1,rfl,?_⟩;refine⟨_,rfl,_,rfl,r,t,wd,rfl,P4,ho,hd,λss k x H5 s5 hb hl=>?_⟩;obtain⟨tt,i,ht,_,_,hmem,hsi,hab⟩:=Yl O.flat O.gq hb;rw[ht] at hl
  have hl:tt=x:=by injection hl with z;exact congrArg Prod.fst z
  subst hl;rw[esd,TC] at hab
  rw[esd] at hsi
  rw[length_map,hab,getElem?_map,hsi] at hx0
  have hx0:nM wd (bh aY t) ss=x0:=Option.some.inj hx0;subst hx0;have et:dg (bh aY t) ss=tt:=by rw[<-La EQ];exact xr ht
  refine⟨_,rfl,rfl,_,rfl,aP ?_ ?_⟩
  ·show ¬(!decide (V.str (tx tt)=V.str (tx (dg (bh aY t) ss))))=true
   rw[et,decide_eq_true rfl];decide
  have P5:=P4.mono (.of s5);refine⟨_,rfl,r,t,rfl,P5,ho,by omega,hd,λrq H6 s6 P6=>?_⟩;refine⟨_,rfl,rq,_,wd,rfl,P6,le_trans O.deep (by decide),O.sides,O.size,O.lg,λl2 rs2 H7 s7 e7 R7=>?_⟩;refine⟨l2,rfl,⟨_,aG.of e7⟩,λD8 TD=>Zr e7 R7 O.sides TD λH8 s8 e8=>?_⟩;have Ld:Same H4 H8:=s5.trans (s6.trans (s7.trans s8));refine⟨_,rfl,l,rfl,⟨_,aG.of (Ld _ _ e4)⟩,λD9 TH=>Zr (Ld _ _ e4) (Paired.gJ R4 λ_ _ e=>vA.mono Ld e) OL.sides TH λH9 s9 e9=>?_⟩;have sm:∀y∈(bh jT t).sides.map (λs=>dg (bh jT t) s),Sm y:=λy hy=>by
   obtain⟨s,hs,rfl⟩:=List.mem_map.mp hy;obtain⟨h1,_⟩:=KQ hs O.lg;exact rP _ _ _ _ _ _ _ Lb (show Sm [] from λc hc=>nomatch hc) h1
  have TK:(bh aY t).sides.map (λs=>dg (bh aY t) s)=(bh jT t).sides.map (λs=>dg (bh jT t) s):=by
   rw[esd];exact map_congr_left λs _=>(La EQ s).symm
  rw[TK] at e9
  refine⟨_,_,.lst (s9 _ _ e8) (L9 _),.lst e9 (L9 _),L8 _ sm,L8 _ sm,le_trans (Zn _) (by decide),?_⟩;rw[SR,decide_eq_true rfl];exact q _
theorem TL     {hA hB:Int}{u1 u2 t1 t2:Tok}{ep:Nat}(X:K.In base)
  (l:K.lookup dB=some ⟨.type "dict",none,.dict #[⟨hA,.str "line" u1,.str " " t1⟩,⟨hB,.str "cut" u2,.str "" t2⟩] ep, #[]⟩) (eA:hA=hashStr w "line") (eB:hB=hashStr w "cut"):base.DictOf (eG P w) dB (nF t1 t2):=by
 refine⟨_,_,_,X _ _ l,⟨rfl,rfl,rfl⟩,rfl,λe he=>?_,.cons (nQ "line" u1) rfl (.cons (nQ "cut" u2) rfl .nil),?_⟩
 ·have he':e=⟨hA,.str "line" u1,.str " " t1⟩\/e=⟨hB,.str "cut" u2,.str "" t2⟩:=by simpa using he
  rcases he' with rfl|rfl
  ·exact⟨Sum.inr "line",nQ "line" u1,eA⟩
  ·exact⟨Sum.inr "cut",nQ "cut" u2,eB⟩
 ·have h:¬(("line":Str)="cut"):=by decide +kernel
  simp[nF,h]
theorem Zu{P:Program}{w:World}{K:Frag}{mg:eV}{base:Heap}{f:Addr}{fd:FuncData}(F:cA K "_law_lay" "_law_lay" Bt f fd)(mF:mg "_law_lay"=some (.ref f))(bF:Binds K fd pK [])(ml:mg "len"=none)(mi:mg "int"=none):∀n,aH P w K mg base aB n f fd pK (Ai n)
 |0=>rQ λ_ _ _ _ h=>h
 |n+1=>RW F mF bF ml mi (Zu F mF bF ml mi n)
theorem Zv{P:Program}{w:World}{K:Frag}{mg:eV}{base:Heap}{f:Addr}{fd:FuncData}(F:cA K "_law_sides" "_law_sides" Bu f fd)(mF:mg "_law_sides"=some (.ref f))(bF:Binds K fd pJ []):∀n,aH P w K mg base aB n f fd pJ (yL n)
 |0=>rQ λ_ _ _ _ h=>h
 |n+1=>RC F mF bF (Zv F mF bF n)
theorem TR     {g1 g2 g3:Int}{v1 v2 v3 s1 s2 s3:Tok}{eq:Nat}(X:K.In base)
  (l:K.lookup dT=some ⟨.type "dict",none,.dict #[⟨g1,.str "+" v1,.int 1 s1⟩,⟨g2,.str "-" v2,.int 1 s2⟩,⟨g3,.str "*" v3,.int 2 s3⟩] eq, #[]⟩) (e1:g1=hashStr w "+") (e2:g2=hashStr w "-") (e3:g3=hashStr w "*"):base.DictOf (eG P w) dT (oE s1 s2 s3):=by
 refine⟨_,_,_,X _ _ l,⟨rfl,rfl,rfl⟩,rfl,λe he=>?_,.cons (nQ "+" v1) rfl (.cons (nQ "-" v2) rfl (.cons (nQ "*" v3) rfl .nil)),?_⟩
 ·have he':e=⟨g1,.str "+" v1,.int 1 s1⟩\/e=⟨g2,.str "-" v2,.int 1 s2⟩\/e=⟨g3,.str "*" v3,.int 2 s3⟩:=by simpa using he
  rcases he' with rfl|rfl|rfl
  ·exact⟨Sum.inr "+",nQ "+" v1,e1⟩
  ·exact⟨Sum.inr "-",nQ "-" v2,e2⟩
  ·exact⟨Sum.inr "*",nQ "*" v3,e3⟩
 ·have h1:¬(("+":Str)="-"):=by decide +kernel
  have h2:¬(("+":Str)="*"):=by decide +kernel
  have h3:¬(("-":Str)="*"):=by decide +kernel
  simp[oE,h1,h2,h3]
def Zw(K:Frag)(n q:Str)(st:Stmt)(f:Addr):Prop:=∃fd,cA K n q st f fd
structure eZ(K:Frag)(n:Str)(st:Stmt)(f:Addr):Prop where
 a:nsIn K mainGlobals n=some (some (.ref f))
 i:Zw K n n st f
structure iy(K:Frag)(C:Addr)(n q:Str)(st:Stmt)(f:Addr):Prop where
 a:findIn K (.ref C) n=some (some (.ref f))
 m:isFn K (.ref f)=true
 i:Zw K n q st f
theorem f9 {n:Str}{st:Stmt} {od an:Option Addr}{sl:Array (Option Value)}{oc kV dc pm cd ct:Value}(a:nsIn K mainGlobals n=some (some (.ref f)))(l:K.lookup f=some ⟨oc,od,.func (fnOf n n (vJ st) (rB st) (cg st) .none kV dc pm an cd ct),sl⟩)(c:codeIn K cd n=true)(k:keepIn K (.ref f)=true):eZ K n st f:=⟨a,_,SN (st:=st) l c k⟩
theorem iM  {n q:Str}{st:Stmt} {od an:Option Addr}{sl:Array (Option Value)}{oc kV dc pm cd ct:Value}(a:findIn K (.ref C) n=some (some (.ref f)))(m:isFn K (.ref f)=true)(l:K.lookup f=some ⟨oc,od,.func (fnOf n q (vJ st) (rB st) (cg st) .none kV dc pm an cd ct),sl⟩)(c:codeIn K cd q=true)(k:keepIn K (.ref f)=true):iy K C n q st f:=⟨a,m,_,SN (st:=st) l c k⟩
structure Le(K:Frag)(C:Addr):Prop where
 g:plainGet K C Str.empty=true
 h:hasDictIn K C=true
 o:plainOver K C=true
 s:findIn K (.ref C) "__setattr__"=some (some (.builtin "object.__setattr__"))
 m:makesIn K C=true
 k:keepIn K (.ref C)=true
theorem all_mk{l:PySem.W.OpenLaw}  {h:Heap} {fa CS Zx Zy TU Up Zz UA UB ZC UC ZD fld ZF ZG UD UE ZJ ZK UF UH UI UK UM UN fly ZL ZM UO Lf fwd ZP UP UQ ZQ fla Lg Lh ZR Lk Ln Lp Lq Lr Ls Lw Lx Ly Lz LK LQ Ds Dt Du Dv LR M0 M3:Addr}(X:K.In h)(G:h.Ns mainGlobals mg)(hfa:mg "law"=some (.ref fa))
  {oB oW oT:Obj} {hA hB nS g1 g2 g3 i1 i2 i3:Int} {ZS ZV ZW ZX y1 y2 y3 ae af ag:Str} {u1 u2 t1 t2 UR UT UU tS v1 v2 v3 s1 s2 s3:Tok} {ep nW eq:Nat}
  (M4:nsIn K mainGlobals "Sheet"=some (some (.ref C)))
  (M5:nsIn K mainGlobals "Nodes"=some (some (.ref CN)))
  (M7:nsIn K mainGlobals "Search"=some (some (.ref CS)))
  (eB:nsIn K mainGlobals "BadBits"=some (some (.ref CB)))
  (bD:nsIn K mainGlobals "BREAKS_IN_ONE_ROW"=some (some (.ref dB)))
  (bT:nsIn K mainGlobals "TIGHTNESS"=some (some (.ref dT)))
  (M8:eZ K "group" Gk Zx)
  (M9:eZ K "joined" Gm Zy)
  (Ma:eZ K "is_leaf" Gn TU)
  (Mf:eZ K "signs_in_one_row" Gp Up)
  (Mg:eZ K "core_of" Gq Zz)
  (Mh:eZ K "cores_within" Gr UA)
  (Mi:eZ K "cores_from_outside" Gs UB)
  (Mj:eZ K "side_taken" Gu ZC)
  (Ml:eZ K "write_leaf" Gv UC)
  (Mp:eZ K "next_steps" Gw ZD)
  (Mq:eZ K "laid" Gx fld)
  (Mr:eZ K "add_ends" Br ZF)
  (Mt:eZ K "undominated" Bs ZG)
  (Mu:eZ K "choose" Gy UD)
  (Mv:eZ K "printed" Gz UE)
  (Mw:eZ K "plan_of" GD ZJ)
  (Mx:eZ K "figures_of" GK ZK)
  (Mz:eZ K "plan_of_parts" GQ UF)
  (MF:eZ K "plan_of_operands" GX UH)
  (MJ:eZ K "plan_of_operand" GZ UI)
  (MK:eZ K "formatted" Hf UK)
  (MP:eZ K "_law_cell" Hg UM)
  (N0:eZ K "_law_mix" Hh UN)
  (N5:eZ K "_law_lay" Bt fly)
  (N6:eZ K "_law_sides" Bu ZL)
  (N7:eZ K "_law_cost" Hi ZM)
  (N8:eZ K "_law_all" Hj UO)
  (N9:eZ K "_law_tree" Hl Lf)
  (Nb:eZ K "_law_width" Ho fwd)
  (Nf:eZ K "_law_joined" Hq ZP)
  (Ng:eZ K "_law_parts" Hr UP)
  (Nh:eZ K "_law_operand" Hs UQ)
  (Nj:eZ K "_law_plan_of" Ht ZQ)
  (Dw:eZ K "law" Hu fla)
  (Nk:iy K C "__init__" "Sheet.__init__" Hv Lg)
  (Nm:iy K C "put" "Sheet.put" Hw Lh)
  (Np:iy K C "begin_row" "Sheet.begin_row" Hx ZR)
  (Nq:iy K CN "__init__" "Nodes.__init__" Hy Lk)
  (Nr:iy K CN "number_of" "Nodes.number_of" Hz Ln)
  (Nt:iy K CN "length_of" "Nodes.length_of" HB Lp)
  (Nu:iy K CN "root_of" "Nodes.root_of" HD Lq)
  (Nv:iy K CN "pair_of_leaf" "Nodes.pair_of_leaf" HF Lr)
  (Nx:iy K CN "pair_of_two" "Nodes.pair_of_two" HJ Ls)
  (Ny:iy K CN "pair_of_plan" "Nodes.pair_of_plan" HN Lw)
  (Nz:iy K CN "pair_round" "Nodes.pair_round" HS Lx)
  (NK:iy K CS "__init__" "Search.__init__" HW Ly)
  (NP:iy K CS "cost_of_signs" "Search.cost_of_signs" HX Lz)
  (NQ:iy K CS "cost_of_break" "Search.cost_of_break" HY LK)
  (NT:iy K CS "spot_of" "Search.spot_of" I0 LQ)
  (NZ:iy K CS "ends_of" "Search.ends_of" vY Ds)
  (O0:iy K CS "missing_for" "Search.missing_for" Bv Dt)
  (O1:iy K CS "worked_out" "Search.worked_out" Ia Du)
  (O2:iy K CS "ends_behind" "Search.ends_behind" Bw Dv)
  (O3:iy K CS "least_cost" "Search.least_cost" Ib LR)
  (O4:iy K CS "first_sides" "Search.first_sides" Ie M0)
  (O5:iy K CS "first_side" "Search.first_side" Ig M3)
  (tV:Le K C)
  (O6:findIn K (.ref C) "pieces"=some none)
  (O7:findIn K (.ref C) "column"=some none)
  (tW:Le K CN)
  (O8:findIn K (.ref CN) "listed"=some none)
  (O9:findIn K (.ref CN) "numbers"=some none)
  (Oa:findIn K (.ref CN) "lengths"=some none)
  (tX:Le K CS)
  (Ob:findIn K (.ref CS) "nodes"=some none)
  (Oc:findIn K (.ref CS) "width"=some none)
  (Od:findIn K (.ref CS) "known"=some none)
  (oG:nsIn K mainGlobals "len"=some none)
  (Dy:nsIn K mainGlobals "int"=some none)
  (Dz:nsIn K mainGlobals "str"=some none)
  (Oe:nsIn K mainGlobals "tuple"=some none)
  (DG:nsIn K mainGlobals "range"=some none)
  (Al:nsIn K mainGlobals "min"=some none)
  (DK:nsIn K mainGlobals "max"=some none)
  (xQ:nsIn K mainGlobals "reversed"=some none)
  (Og:nsIn K mainGlobals "sorted"=some none)
  (zdict:nsIn K mainGlobals "dict"=some none)
  (xo:excIn K CB Fo "ValueError.__new__"=true)
  (lB:K.lookup dB=some oB)
  (lC:oB=⟨.type "dict",none,.dict #[⟨hA,.str ZS u1,.str ZW t1⟩,⟨hB,.str ZV u2,.str ZX t2⟩] ep, #[]⟩)
  (q1:ZS=("line":Str))
  (q2:ZV=("cut":Str))
  (q3:ZW=(" ":Str))
  (q4:ZX=("":Str))
  (lT:K.lookup dT=some oT)
  (lU:oT=⟨.type "dict",none,.dict #[⟨g1,.str ae v1,.int i1 s1⟩,⟨g2,.str af v2,.int i2 s2⟩,⟨g3,.str ag v3,.int i3 s3⟩] eq, #[]⟩)
  (p1:ae=("+":Str))
  (w1:i1=1)
  (p2:af=("-":Str))
  (w2:i2=1)
  (p3:ag=("*":Str))
  (w3:i3=2)
  (gW:nsIn K mainGlobals "WRAPPERS"=some (some (.ref aW)))
  (lW:K.lookup aW=some oW)
  (Oh:oW.cls=.type "tuple")
  (Oi:oW.data=.seq #[.str y1 UR,.str y2 UT,.str y3 UU] nW)
  (r1:y1=("nest":Str))
  (r2:y2=("align":Str))
  (r3:y3=("flat":Str))
  (gS:nsIn K mainGlobals "SIGN_BEYOND"=some (some (.int nS tS)))
  (r4:nS=1000000000000)
  (q5:hA=hashStr w "line")
  (q6:hB=hashStr w "cut")
  (q7:(dB==sysModules)=false)
  (q8:g1=hashStr w "+")
  (q9:g2=hashStr w "-")
  (rC:g3=hashStr w "*")
  (Oj:(dT==sysModules)=false):
  ∃fd:FuncData,(∀(s:Shared) (v:Value),BindsTo s fd ⟨[v],[]⟩ [("_law_script",v)])/\∀base:Heap,K.In base->base.Ns mainGlobals mg->aH l.prog w K mg base aB 93 fa fd ["_law_script"] (Ak K):=by
 subst q1 q2 q3 q4 lC r1 r2 r3 r4 lU p1 p2 p3 w1 w2 w3;have e:=hfa.symm.trans (mg_of X G Dw.a);cases e;have g:∀ {x:Str} {v:Value},nsIn K mainGlobals x=some (some v)->mg x=some v:=λe=>mg_of X G e
 have g0:∀ {x:Str},nsIn K mainGlobals x=some none->mg x=none:=λe=>PySem.W.mg_none_of X G e
 have T:xK K mg C:=⟨⟨tV.g,tV.h,tV.o,tV.s⟩,O6,O7,g0 oG⟩;have TN:k9 K mg CN:=⟨⟨tW.g,tW.h,tW.o,tW.s⟩,O8,O9,Oa,g0 oG,g0 Al,g0 xQ⟩;have TS:kZ K mg CS:=⟨⟨tX.g,tX.h,tX.o,tX.s⟩,Ob,Oc,Od,⟨tS,g gS⟩,g0 Al,g0 DK,g0 xQ,g0 zdict⟩;have Tw:Iv K mg aW:=⟨g gW,λH=>.inr ⟨oW,_,nW,lW,Oh,Oi,by show 3<=sizeLine;decide,.cons ⟨_,rfl⟩ (.cons ⟨_,rfl⟩ (.cons ⟨_,rfl⟩ .nil))⟩⟩;obtain⟨ah,dgr,DN⟩:=M8;have ap:=DN.binds (ps:=["plan"]) λ_ _ _ _ _ _ us hl=>match us,hl with|[_],_=>rfl
 obtain⟨DP,UV,Am⟩:=M9;have DQ:=Am.binds (ps:=["plans"]) λ_ _ _ _ _ _ us hl=>match us,hl with|[_],_=>rfl
 obtain⟨av,dil,DR⟩:=Ma;have aw:=DR.binds (ps:=["plan"]) λ_ _ _ _ _ _ us hl=>match us,hl with|[_],_=>rfl
 obtain⟨asg,dsg,DW⟩:=Mf;have ay:=DW.binds (ps:=["leaf"]) λ_ _ _ _ _ _ us hl=>match us,hl with|[_],_=>rfl
 obtain⟨acc,dcc,DX⟩:=Mg;have az:=DX.binds (ps:=["plan"]) λ_ _ _ _ _ _ us hl=>match us,hl with|[_],_=>rfl
 obtain⟨UX,dwi,Ol⟩:=Mh;have UY:=Ol.binds (ps:=["core"]) λ_ _ _ _ _ _ us hl=>match us,hl with|[_],_=>rfl
 obtain⟨UZ,dou,Om⟩:=Mi;have VA:=Om.binds (ps:=["plan"]) λ_ _ _ _ _ _ us hl=>match us,hl with|[_],_=>rfl
 obtain⟨VC,dsd,Oo⟩:=Mj;have VE:=Oo.binds (ps:=["choice","bits","met"]) λ_ _ _ _ _ _ us hl=>match us,hl with|[_,_,_],_=>rfl
 obtain⟨VI,dlf,Oq⟩:=Ml;have VM:=Oq.binds (ps:=["sheet","plan","margin","in_one_row"]) λ_ _ _ _ _ _ us hl=>match us,hl with|[_,_,_,_],_=>rfl
 obtain⟨VO,dnx,Ot⟩:=Mp;have VQ:=Ot.binds (ps:=["plan","margin","in_one_row","column"]) λ_ _ _ _ _ _ us hl=>match us,hl with|[_,_,_,_],_=>rfl
 obtain⟨VS,dld,Ou⟩:=Mq;have VU:=Ou.binds (ps:=["plan","bits"]) λ_ _ _ _ _ _ us hl=>match us,hl with|[_,_],_=>rfl
 obtain⟨Ov,dae,Ao⟩:=Mr;have Ow:=Ao.binds (ps:=["ends","more","spent"]) λ_ _ _ _ _ _ us hl=>match us,hl with|[_,_,_],_=>rfl
 obtain⟨Ox,dud,Aq⟩:=Mt;have Oz:=Aq.binds (ps:=["ends"]) λ_ _ _ _ _ _ us hl=>match us,hl with|[_],_=>rfl
 obtain⟨VW,dch,OD⟩:=Mu;have VX:=OD.binds (ps:=["plan","width"]) λ_ _ _ _ _ _ us hl=>match us,hl with|[_,_],_=>rfl
 obtain⟨VY,dpr,OJ⟩:=Mv;have VZ:=OJ.binds (ps:=["plan","width"]) λ_ _ _ _ _ _ us hl=>match us,hl with|[_,_],_=>rfl
 obtain⟨DY,Wl,xR⟩:=Mw;have E3:=xR.binds (ps:=["tree"]) λ_ _ _ _ _ _ us hl=>match us,hl with|[_],_=>rfl
 obtain⟨Wp,dfg,P9⟩:=Mx;have WB:=P9.binds (ps:=["number"]) λ_ _ _ _ _ _ us hl=>match us,hl with|[_],_=>rfl
 obtain⟨app,dpp,Pa⟩:=Mz;have WC:=Pa.binds (ps:=["opening","parts","closing"]) λ_ _ _ _ _ _ us hl=>match us,hl with|[_,_,_],_=>rfl
 obtain⟨WG,dpO,Pb⟩:=MF;have WH:=Pb.binds (ps:=["tree"]) λ_ _ _ _ _ _ us hl=>match us,hl with|[_],_=>rfl
 obtain⟨WN,dpd,Pg⟩:=MJ;have WU:=Pg.binds (ps:=["tree","tightness"]) λ_ _ _ _ _ _ us hl=>match us,hl with|[_,_],_=>rfl
 obtain⟨WV,dfm,Ph⟩:=MK;have WZ:=Ph.binds (ps:=["tree","width"]) λ_ _ _ _ _ _ us hl=>match us,hl with|[_,_],_=>rfl
 obtain⟨Xs,dce,Pj⟩:=MP;have bce:=Pj.binds (ps:=["_law_script","_law_k"]) λ_ _ _ _ _ _ us hl=>match us,hl with|[_,_],_=>rfl
 obtain⟨Pk,dmi,Ar⟩:=N0;have Pn:=Ar.binds (ps:=["_law_script","_law_k"]) λ_ _ _ _ _ _ us hl=>match us,hl with|[_,_],_=>rfl
 obtain⟨aE,dly,Pr⟩:=N5;have aI:=Pr.binds (ps:=pK) λ_ _ _ _ _ _ us hl=>match us,hl with|[_,_,_,_,_],_=>rfl
 obtain⟨ass,dss,Pu⟩:=N6;have aS:=Pu.binds (ps:=pJ) λ_ _ _ _ _ _ us hl=>match us,hl with|[_],_=>rfl
 obtain⟨Xt,dcs,Px⟩:=N7;have XA:=Px.binds (ps:=["_law_text","_law_width_here"]) λ_ _ _ _ _ _ us hl=>match us,hl with|[_,_],_=>rfl
 obtain⟨XE,dal,Py⟩:=N8;have XG:=Py.binds (ps:=["_law_plan","_law_width_here"]) λ_ _ _ _ _ _ us hl=>match us,hl with|[_,_],_=>rfl
 obtain⟨aT,bd,Pz⟩:=N9;have bg:=Pz.binds (ps:=oZ) λ_ _ _ _ _ _ us hl=>match us,hl with|[_,_,_,_],_=>rfl
 obtain⟨XI,dwd,PB⟩:=Nb;have bwd:=PB.binds (ps:=["_law_script","_law_k"]) λ_ _ _ _ _ _ us hl=>match us,hl with|[_,_],_=>rfl
 obtain⟨PJ,dlj,Av⟩:=Nf;have PK:=Av.binds (ps:=["_law_plans"]) λ_ _ _ _ _ _ us hl=>match us,hl with|[_],_=>rfl
 obtain⟨XN,dlp,PN⟩:=Ng;have XO:=PN.binds (ps:=["_law_first","_law_parts_here","_law_last"]) λ_ _ _ _ _ _ us hl=>match us,hl with|[_,_,_],_=>rfl
 obtain⟨XT,dlo,PX⟩:=Nh;have XU:=PX.binds (ps:=["_law_tree_here","_law_kinds"]) λ_ _ _ _ _ _ us hl=>match us,hl with|[_,_],_=>rfl
 obtain⟨Q0,dle,Aw⟩:=Nj;have ble:=Aw.binds (ps:=["_law_tree_here"]) λ_ _ _ _ _ _ us hl=>match us,hl with|[_],_=>rfl
 obtain⟨ala,bj,bn⟩:=Dw;obtain⟨bo,bp,zi0,Q5⟩:=Nk;have XW:=Q5.binds (ps:=["self"]) λ_ _ _ _ _ _ us hl=>match us,hl with|[_],_=>rfl
 have zi1:Meth K C "__init__" Lg:=⟨bo,bp,Q5.kp⟩
 obtain⟨XX,XY,dput,Q6⟩:=Nm;have bq:=Q6.binds (ps:=["self","signs"]) λ_ _ _ _ _ _ us hl=>match us,hl with|[_,_],_=>rfl
 have bu:Meth K C "put" Lh:=⟨XX,XY,Q6.kp⟩
 obtain⟨XZ,Ya,zi2,Q7⟩:=Np;have Yf:=Q7.binds (ps:=["self","margin"]) λ_ _ _ _ _ _ us hl=>match us,hl with|[_,_],_=>rfl
 have YN:Meth K C "begin_row" ZR:=⟨XZ,Ya,Q7.kp⟩
 obtain⟨bv,bz,zi3,Q8⟩:=Nq;have YR:=Q8.binds (ps:=["self"]) λ_ _ _ _ _ _ us hl=>match us,hl with|[_],_=>rfl
 have zi4:Meth K CN "__init__" Lk:=⟨bv,bz,Q8.kp⟩
 obtain⟨YV,YY,zi5,Q9⟩:=Nr;have ZA:=Q9.binds (ps:=lY) λ_ _ _ _ _ _ us hl=>match us,hl with|[_,_],_=>rfl
 have ZE:Meth K CN "number_of" Ln:=⟨YV,YY,Q9.kp⟩
 obtain⟨ZH,ZI,zi6,Qa⟩:=Nt;have ZN:=Qa.binds (ps:=lY) λ_ _ _ _ _ _ us hl=>match us,hl with|[_,_],_=>rfl
 have ZO:Meth K CN "length_of" Lp:=⟨ZH,ZI,Qa.kp⟩
 obtain⟨ZT,ZU,zi7,Qc⟩:=Nu;have ZY:=Qc.binds (ps:=["self","plan"]) λ_ _ _ _ _ _ us hl=>match us,hl with|[_,_],_=>rfl
 have ZZ:Meth K CN "root_of" Lq:=⟨ZT,ZU,Qc.kp⟩
 obtain⟨za0,za1,zi8,Qd⟩:=Nv;have za2:=Qd.binds (ps:=["self","leaf"]) λ_ _ _ _ _ _ us hl=>match us,hl with|[_,_],_=>rfl
 have za3:Meth K CN "pair_of_leaf" Lr:=⟨za0,za1,Qd.kp⟩
 obtain⟨za4,za5,zi9,Qe⟩:=Nx;have za6:=Qe.binds (ps:=zE) λ_ _ _ _ _ _ us hl=>match us,hl with|[_,_,_,_],_=>rfl
 have za7:Meth K CN "pair_of_two" Ls:=⟨za4,za5,Qe.kp⟩
 obtain⟨za8,za9,zj0,Qf⟩:=Ny;have zb0:=Qf.binds (ps:=wC) λ_ _ _ _ _ _ us hl=>match us,hl with|[_,_,_],_=>rfl
 have zb1:Meth K CN "pair_of_plan" Lw:=⟨za8,za9,Qf.kp⟩
 obtain⟨zb2,zb3,zj1,Qg⟩:=Nz;have zb4:=Qg.binds (ps:=["self","wrapper","pair"]) λ_ _ _ _ _ _ us hl=>match us,hl with|[_,_,_],_=>rfl
 have zb5:Meth K CN "pair_round" Lx:=⟨zb2,zb3,Qg.kp⟩
 obtain⟨asin,isin,zj2,Qh⟩:=NK;have zb6:=Qh.binds (ps:=["self","nodes","width"]) λ_ _ _ _ _ _ us hl=>match us,hl with|[_,_,_],_=>rfl
 have zj3:Meth K CS "__init__" Ly:=⟨asin,isin,Qh.kp⟩
 obtain⟨zb7,zb8,zj4,Qi⟩:=NP;have zb9:=Qi.binds (ps:=["self","column","length"]) λ_ _ _ _ _ _ us hl=>match us,hl with|[_,_,_],_=>rfl
 have zc0:Meth K CS "cost_of_signs" Lz:=⟨zb7,zb8,Qi.kp⟩
 obtain⟨zc1,zc2,zj5,Qj⟩:=NQ;have zc3:=Qj.binds (ps:=["self","margin"]) λ_ _ _ _ _ _ us hl=>match us,hl with|[_,_],_=>rfl
 have zc4:Meth K CS "cost_of_break" LK:=⟨zc1,zc2,Qj.kp⟩
 obtain⟨zc5,zc6,zj6,Qk⟩:=NT;have zc7:=Qk.binds (ps:=lE) λ_ _ _ _ _ _ us hl=>match us,hl with|[_,_,_,_],_=>rfl
 have zc8:Meth K CS "spot_of" LQ:=⟨zc5,zc6,Qk.kp⟩
 obtain⟨zc9,zd0,zj7,E4⟩:=NZ;have bX:=E4.binds (ps:=lE) λ_ _ _ _ _ _ us hl=>match us,hl with|[_,_,_,_],_=>rfl
 have ca:Meth K CS "ends_of" Ds:=⟨zc9,zd0,E4.kp⟩
 obtain⟨zd1,zd2,zd3,Ql⟩:=O0;have cb:=Ql.binds (ps:=["self","spot"]) λ_ _ _ _ _ _ us hl=>match us,hl with|[_,_],_=>rfl
 have ce:Meth K CS "missing_for" Dt:=⟨zd1,zd2,Ql.kp⟩
 obtain⟨zd4,zd5,zd6,Qm⟩:=O1;have cf:=Qm.binds (ps:=["self","spot"]) λ_ _ _ _ _ _ us hl=>match us,hl with|[_,_],_=>rfl
 have ck:Meth K CS "worked_out" Du:=⟨zd4,zd5,Qm.kp⟩
 obtain⟨zd7,zd8,zj8,E7⟩:=O2;have cm:=E7.binds (ps:=uU) λ_ _ _ _ _ _ us hl=>match us,hl with|[_,_,_,_],_=>rfl
 have cn:Meth K CS "ends_behind" Dv:=⟨zd7,zd8,E7.kp⟩
 obtain⟨zd9,ze0,zj9,Qn⟩:=O3;have ze1:=Qn.binds (ps:=["self","waiting","column"]) λ_ _ _ _ _ _ us hl=>match us,hl with|[_,_,_],_=>rfl
 have ze2:Meth K CS "least_cost" LR:=⟨zd9,ze0,Qn.kp⟩
 obtain⟨ze3,ze4,zk0,Qo⟩:=O4;have ze5:=Qo.binds (ps:=["self","root","cost"]) λ_ _ _ _ _ _ us hl=>match us,hl with|[_,_,_],_=>rfl
 have ze6:Meth K CS "first_sides" M0:=⟨ze3,ze4,Qo.kp⟩
 obtain⟨ze7,ze8,zk1,Qp⟩:=O5;have ze9:=Qp.binds (ps:=["self","choice","margin","waiting","column","cost"]) λ_ _ _ _ _ _ us hl=>match us,hl with|[_,_,_,_,_,_],_=>rfl
 have zf0:Meth K CS "first_side" M3:=⟨ze7,ze8,Qp.kp⟩
 have tM:∀(s:Shared) (v:Value),BindsTo s bj ⟨[v],[]⟩ [("_law_script",v)]:=by
  obtain⟨oc,od,kV,doc,pm,an,cdv,ct,osl,rfl,lk,hcd⟩:=bn.ex;exact λs v=>.of_eq rfl
 refine⟨bj,tM,λbase XB _=>?_⟩;have B:Ir l.prog w mg base dB t1 t2:=⟨g bD,q7,TL XB lB q5 q6⟩;have Tg:JZ l.prog w mg base dT s1 s2 s3:=⟨g bT,Oj,TR XB lT q8 q9 rC⟩;have Gce:=Bz (P:=l.prog) (w:=w) (base:=base) Pj (g0 oG);have Qq:=BA (P:=l.prog) (w:=w) (base:=base) Ar Gce bce Pj.kp (g Xs);have Gt0:∀m,aH l.prog w K mg base aB 3 Lf bd oZ (wj K m 0):=λm=>rQ λ_ _ _ _ h=>h
 have Gt:∀m,m<=100->∀d,aH l.prog w K mg base aB (3+d) Lf bd oZ (wj K m d):=λm hm d=>by
  induction d with
  |zero=>exact Gt0 m
  |succ d ih=>exact SF (n:=3+d) (by omega) hm Pz (g aT) bg (g0 DG) (g0 Oe) Qq Pn Ar.kp (g Pk) ih
 have Gly:∀n,aH l.prog w K mg base aB n fly _ pK (Ai n):=Zu Pr (g aE) aI (g0 oG) (g0 Dy);have Gss:∀n,aH l.prog w K mg base aB n ZL _ pJ (yL n):=Zv Pu (g ass) aS;have cq:=DT (P:=l.prog) (w:=w) DR B;have cr:=Fn (P:=l.prog) (w:=w) DW B;have cv:aH l.prog w K mg base aB 1 Zz _ ["plan"] zf:=DU DX Tw
 have Gwi:=DZ Ol cq aw DR.kp (g av) cv az DX.kp (g acc);have Gou:=Eg Om (g0 oG) Gwi UY Ol.kp (g UX) cv az DX.kp (g acc);have zf1:aH l.prog w K mg base aB 1 Lg _ ["self"] (Dg C):=OV Q5 T
 have cz:aH l.prog w K mg base aB 1 Lh _ ["self","signs"] (xJ C):=OX Q6 T
 have zf2:=OZ Q7 T cz bq bu;have Gsd:aH l.prog w K mg base (jJ l.prog w) 1 ZC _ ["choice","bits","met"] (Di CB):=Pl Oo (g0 oG) (g eB) xo
 have Glf:=Pt Oq T cz bq bu zf2 Yf YN cr ay DW.kp (g asg);have Gnx:aH l.prog w K mg base aB 1 ZD _ ["plan","margin","in_one_row","column"] Dj:=PD Ot
 have Gld:=PP Ou T ⟨tV.m,bo,bp,tV.k⟩ (g M4) (g eB) xo zf1 XW Gsd VE Oo.kp (g VC) cq aw DR.kp (g av) Gnx VQ Ot.kp (g VO) Glf VM Oq.kp (g VI);have Gni:aH l.prog w K mg base aB 1 Lk _ ["self"] (C0 CN):=EL Q8 TN
 have zf3:MO l.prog w K mg base CN aB 1 Lp _ "length_of" lY (C1 CN):=⟨ER Qa TN,ZN,ZO⟩
 have Qs:MO l.prog w K mg base CN aB 2 Ln _ "number_of" lY (wB CN):=⟨EW Q9 TN zf3,ZA,ZE⟩
 have zf4:MO l.prog w K mg base CN aB 3 Lr _ "pair_of_leaf" ["self","leaf"] (C5 CN):=⟨Fu Qd TN Qs cr ay DW.kp (g asg),za2,za3⟩
 have zf5:MO l.prog w K mg base CN aB 3 Lx _ "pair_round" ["self","wrapper","pair"] (C6 CN):=⟨FD Qg TN Qs,zb4,zb5⟩
 have cE:MO l.prog w K mg base CN aB 4 Lw _ "pair_of_plan" wC (zy CN):=⟨FH Qf TN Tw zf5,zb0,zb1⟩
 have zf6:MO l.prog w K mg base CN aB 5 Ls _ "pair_of_two" zE (C7 CN):=⟨FL Qe TN Qs cE,za6,za7⟩
 have zf7:MO l.prog w K mg base CN aB 6 Lq _ "root_of" ["self","plan"] (C8 CN):=⟨FV Qc TN zf4 zf6 cE Gou VA Om.kp (g UZ),ZY,ZZ⟩
 have Qt:aH l.prog w K mg base aB 1 ZF _ ["ends","more","spent"] zT:=HA Ao
 have Qu:aH l.prog w K mg base aB 1 ZG _ ["ends"] zU:=HC Aq (g0 Og)
 have zf8:aH l.prog w K mg base aB 1 Ly _ ["self","nodes","width"] (D1 CS):=Mb Qh TS
 have Qv:MO l.prog w K mg base CS aB 1 Lz _ "cost_of_signs" ["self","column","length"] (wO CS):=⟨Iy Qi TS,zb9,zc0⟩
 have cK:MO l.prog w K mg base CS aB 2 LK _ "cost_of_break" ["self","margin"] (zZ CS):=⟨IB Qj TS Qv,zc3,zc4⟩
 have E8:MO l.prog w K mg base CS aB 1 LQ _ "spot_of" lE (uR CN CS):=⟨IC Qk TS TN,zc7,zc8⟩
 have zf9:MO l.prog w K mg base CS aB 1 Dt zd3 "missing_for" ["self","spot"] (λ_ _ _ _=>False):=⟨rQ λ_ _ _ _ h=>h,cb,ce⟩
 have zg0:MO l.prog w K mg base CS aB 1 Du zd6 "worked_out" ["self","spot"] (λ_ _ _ _=>False):=⟨rQ λ_ _ _ _ h=>h,cf,ck⟩
 have cS:MO l.prog w K mg base CS aB 2 Ds _ "ends_of" lE (uT CN CS true):=⟨II E4 TS E8 zf9 zg0,bX,ca⟩
 have zg1:MO l.prog w K mg base CS aB 3 Dv _ "ends_behind" uU (wU CN CS true):=⟨X4 (by decide) E7 TS cS Qt Ow Ao.kp (g Ov) Qu Oz Aq.kp (g Ox),cm,cn⟩
 have zg2:MO l.prog w K mg base CS aB 2 Dt _ "missing_for" ["self","spot"] (Cr CN CS):=⟨IQ Ql TS TN E8,cb,ce⟩
 have zg3:MO l.prog w K mg base CS aB 4 Du _ "worked_out" ["self","spot"] (Cv CN CS):=⟨IX Qm TS TN Qv cK cS zg1 Qt Ow Ao.kp (g Ov) Qu Oz Aq.kp (g Ox),cf,ck⟩
 have zg4:MO l.prog w K mg base CS aB 5 Ds _ "ends_of" lE (uT CN CS false):=⟨KF E4 TS E8 zg2 zg3,bX,ca⟩
 have zg5:MO l.prog w K mg base CS aB 6 Dv _ "ends_behind" uU (wU CN CS false):=⟨X4 (by decide) E7 TS zg4 Qt Ow Ao.kp (g Ov) Qu Oz Aq.kp (g Ox),cm,cn⟩
 have de:MO l.prog w K mg base CS aB 7 LR _ "least_cost" ["self","waiting","column"] (A9 CN CS):=⟨Lc Qn TS zg5,ze1,ze2⟩
 have zg6:MO l.prog w K mg base CS aB 8 M3 _ "first_side" ["self","choice","margin","waiting","column","cost"] (CW CN CS):=⟨LI Qp TS de,ze9,zf0⟩
 have zg7:MO l.prog w K mg base CS aB 9 M0 _ "first_sides" ["self","root","cost"] (CZ CN CS):=⟨LJ Qo TS TN E8 Qv cK zg6,ze5,ze6⟩
 have Gch:=Md OD TN TS ⟨tW.m,bv,bz,tW.k⟩ (g M5) Gni YR ⟨tX.m,asin,isin,tX.k⟩ (g M7) zf8 zb6 zf7 de zg7;have Gpr:=Sn OJ Gld VU Ou.kp (g VS) Gch VX OD.kp (g VW);have df:aH l.prog w K mg base aB 1 Zx _ ["plan"] yU:=Ct DN
 have Qw:∀n,aH l.prog w K mg base aB n Zy UV ["plans"] (uI n):=λn=>by
  induction n with
  |zero=>exact rQ λ_ _ _ _ h=>h
  |succ n ih=>exact CA Am (g DP) DQ (g0 oG) ih
 have Gfg:aH l.prog w K mg base aB 1 ZK _ ["number"] D5:=QP P9 (g0 Dz) (g0 xQ)
 have di:∀d,aH l.prog w K mg base aB (17+3*d) ZJ Wl ["tree"] (x9 d):=λd=>by
  induction d with
  |zero=>exact rQ λ_ _ _ _ h=>h
  |succ d ih=>
   have G1:=MT Pg Tg ih E3 xR.kp (g DY) (Qw 10) DQ Am.kp (g DP) (by omega);have G2:=MU Pa ih E3 xR.kp (g DY) (Qw 10) DQ Am.kp (g DP) df ap DN.kp (g ah) (by omega);have G3:=NY Pb Tg (g0 xQ) G1 WU Pg.kp (g WN) (Qw 10) DQ Am.kp (g DP) df ap DN.kp (g ah) (by omega);exact MR (n:=17+3*d+2) xR Gfg WB P9.kp (g Wp) (G2.mono (by omega)) WC Pa.kp (g app) G3 WH Pb.kp (g WG) (by omega)
 have Gfm:=SA Ph (di 4) E3 xR.kp (g DY) Gpr VZ OJ.kp (g VY) (by decide);have Gcs:aH l.prog w K mg base aB 1 ZM _ ["_law_text","_law_width_here"] Dq:=Se Px (g0 DK) (g0 oG)
 have Gal:=Sf Py (Gss 91) aS Pu.kp (g ass) (Gly 91) aI Pr.kp (g aE) Gcs XA Px.kp (g Xt);have Gwd:=Sb PB Qq Pn Ar.kp (g Pk);have Qx:aH l.prog w K mg base aB 1 ZP _ ["_law_plans"] xG:=OC Av
 have Gle:∀d,aH l.prog w K mg base aB (12+2*d) ZQ dle ["_law_tree_here"] (Ag d):=λd=>by
  induction d with
  |zero=>exact rQ λ_ _ _ _ h=>h
  |succ d ih=>
   have G1:=OG PX ih ble Aw.kp (g Q0) Qx PK Av.kp (g PJ) (by omega);have G2:=OH PN (g0 DG) (g0 oG) (g0 Dy) ih ble Aw.kp (g Q0) Qx PK Av.kp (g PJ) (by omega);exact QY (n:=12+2*d+1) Aw (g0 Dz) G2 XO PN.kp (g XN) G1 XU PX.kp (g XT) Qx PK Av.kp (g PJ) (by omega)
 exact To bn (g0 Al) (Gt 3 (by decide) 3) (Gt 2 (by decide) 4) bg Pz.kp (g aT) Qq Pn Ar.kp (g Pk) Gwd bwd PB.kp (g XI) (Gle 4) ble Aw.kp (g Q0) Gal XG Py.kp (g XE) Gfm WZ Ph.kp (g WV) (di 4) E3 xR.kp (g DY)
theorem walk{l:PySem.W.OpenLaw}{q:Program}{loose:List Str}{XP:(Str->Option Value)->Heap->Prop}{YP:World->Heap->Prop}{d:DefRec}{K:Params->Frag}(hn:l.most=some 63)(hdf:d.params.defaults=[])
  (hY:∀(w:World) (h:Heap),YP w h->(K w.params).In h)
  (F:∀(w:World) (mg:eV) (fa:Addr) (h:Heap),(K w.params).In h->h.Ns mainGlobals mg->mg d.name=some (.ref fa)->
   ∃fd:FuncData,(∀(s:Shared) (u:Value),BindsTo s fd ⟨[u],[]⟩ [("_law_script",u)])/\∀base:Heap,(K w.params).In base->base.Ns mainGlobals mg->aH l.prog w (K w.params) mg base aB 93 fa fd ["_law_script"] (Ak (K w.params))):
  PySem.W.WalkO q loose XP YP l.row.toRowW d [] (λf vs=>PySem.call f vs):=
 L2.qv (n:=63) (k:=93) (x:="_law_script") (CX:=λ_=>aB) (sp:=λw=>Ak (K w.params)) hn (by decide) hdf ⟨rfl,by decide,by decide⟩ hY F (λ_ _ a ns hl _ hS=>⟨a,ns,rfl,hS,hl,λ_=>rfl⟩) λ_ _ _ _ _ z=>z
end Pq
structure PySem.W.Fast:Prop where(tw15178793324271162354 tw7896922034455852470 tw3167740847356068163 tw16028562896185318860 tw6143250844267823340 tw12384822792714812380 tw803515447266127158 tw14040377845891490554 tw15765670010460872735 tw3263955147151115311 tw2642528323474554345 tw8312347306883232654 tw6632695985601642437 tw3129786872717101907 tw5722303788570385341 tw13989781011820675558 tw15989938720786645788 tw5044102294075483262 tw3874359517461330408 tw1072161301569417522 tw391143449503449658 tw15565903993157271559 tw15126370584238544969 tw14620549243264477867 tw655882201484050830 tw7468422373010031179 tw15176662301021100259 tw4109530263233702955 tw16956367151287838732 tw1212758568007148050 tw14237797918211171714 tw5588752859415405505 tw17991421911339023855 tw6129297284173899461 tw16394303024099925267 tw15494124612309642263 tw3506830445244088109 tw372158817822772732 tw16900442360621407043 tw16542086274986372291 tw1001958548106488767 tw6866390979061903767 tw233444224953566901 tw7892731868521282761 tw11058009049760420159 tw10908360154462594072 tw7284147386129515164 tw511573096080690431 tw5687519325264763452 tw10328859487558806518 tw1213806830511271727 tw8277179506972821495 tw13040026531542087143 tw6140532243265551310 tw14400568650030871206 tw7842599414425306653 tw16939906852662134978 tw4675303557179114064 tw12739444800810399085 tw9247843220686308847 tw3698258123111588099 tw13734111852792238118 tw7751285228975204300 tw6780021880120960015 tw9226133549868653642 tw1090052803295203211 tw16158945083511191058 tw17589077795537655277 tw8424843460274686338 tw18284998135067893829 tw8324895066338168909 tw4722392592637881234 tw18370231447032205845 tw15605103023067520572 tw15577549400702783995 tw3854959369511121373 tw2000959852514586081 tw7625417129983556040 tw442441273560951089 tw3071517433801642116 tw1749813652841162681 tw2836074598848105711 tw17547944446714431980 tw7070073651779380343 tw12914851613487979922 tw1307035459236697143 tw52695451382675726 tw11937589303500995209 tw4754876966909859792 tw3639871718335396410 tw17395139697415987584 tw4806690372054665875 tw14089311617244237071 tw2643455397922677810 tw16327360707272969781 tw15916289075348997015 tw9379019701922745280 tw11387832995883780988 tw8746791468105628134 tw15475115047197393296 tw2265581889004066283 tw17488985707126202898 tw7010064671466734957 tw16908972380786420055 tw15423158842822416745 tw8059015610299042807 tw5557366884373694422 tw3948491439583316401 tw3181050663621913487 tw16883969617783456874 tw1701005800760095323 tw13237671128694680787 tw11933208918369128548 tw3299652270229461558 tw3063657224322171601 tw11318100808029821888 tw17255679070825077006 tw1130252127464577770 tw6132585363893436759 tw17329728210470179719 tw3946037201769737127 tw3379423981631150963 tw17604393456418333874 tw492687094830398160 tw5551045623211834462 tw9423495753005281264 tw14426551263563123801 tw1883409130486572638 tw10024582649274557377 tw13210992522103862777 tw6475971943221235475 tw14663601929671858214 tw14236191959166329306 tw14412701785507024882 tw296551956986876518 tw16159023585650183501 tw7920619127893468964 tw1510373453221414943 tw14414797363008391460 tw16975877209574411314 tw518521437263640874 tw7915450125198790623 tw10220895676348376027 tw10894775855022222717 tw12157690228761585650 tw4417910072563536707 tw11489005313596485073 tw9486310599854993287 tw5401469248431851355 tw15555813516822873425 tw6267925746534547046 tw942437033607505823 tw1651306406342827397 tw4292919415696623963 tw11783758374385229069 tw7496460309178769251 tw2202741248741610215 tw12757512852171813522 tw5363595379460921133 tw7409463774194385700 tw333534107510616155 tw12521037715815095349 tw18019786027369616023 tw13973637212222517340 tw5416559408411245338 tw6357939547128380959 tw935154606700221218 tw2951075381197718810 tw347470149269836393 tw13157775795223629684 tw1432239641371893012 tw14797635314731804064 tw9936613800178875716 tw6127971298851409356 tw3015471336171494451 tw13546682429506981941 tw2433106270433379784 tw14551619364276930234 tw10188729831264593453 tw13185073505052782322 tw1707727862030257694 tw9532858005770000555 tw4512611414760769640 tw10312676943797300461 tw7905383213311262572 tw13448877490993097223 tw9099515037477677772 tw9068969961244911914 tw14804270210087270497 tw5289334426025731705 tw14599994913600484011 tw11682990724483510438 tw16636871544851073980 tw16410870478865692631 tw15816381278560259693 tw17300204005648612122 tw12268673089165449246 tw13425360787818811001 tw9214787953200241686 tw13181969449768611626 tw458008429163393600 tw8598515281344232305 tw6075205303158811056 tw10157869046302732952 tw10095825563814403383 tw7083756717154994272 tw13317087707290082989 tw677747737325243915 tw10176105650773374122 tw12848702363756994660 tw1624693491208581221 tw18241961568853645186 tw17283174398036274194 tw11029733937138503111 tw6788858420678884390 tw3668098973456978480 tw3963617336753093307 tw10942378901622124968 tw18116781455491160944 tw11667386096586937904 tw14059278913163653728 tw14852080517117120830 tw2267996723579547424 tw4155411397589752209 tw13177887694227474384 tw16755759531454929659 tw11979122443604283431 tw16319643993894931526 tw2665953653299169 tw4513052037768226217 tw16282467472200621563 tw11381998678148746565 tw735304404141680306 tw7941100927444002315 tw2461250226792413775 tw15799197104454410744 tw2843684684016307783 tw5534135785017433529 tw14763474299403248010 tw5896176732996026322 tw18437105793134159707 tw9786028956691377366 tw12606334156080850598 tw11821211854750875130 tw5069638009072304577 tw4184558204652192654 tw10240358913106384140 tw5218234537541107443 tw2970754009245686026 tw18171876500008415973 tw10269861802158552140 tw6474408127084833439 tw14541609416791693304 tw14959655210899851372 tw12331614371932108740 tw8160376435178078993 tw17948789148741204745 tw9254438038503461284 tw12189499472699902231 tw2217713393943389922 tw12136525830056947845 tw6247919526645738508 tw2348070369046753925 tw9670717750669007208 tw8033240228108508711 tw16090111634324852785 tw6651549764167055046 tw10304501522035025713 tw5588632071448218549 tw16023306284557892163 tw9836765869409940282 tw14960132572328048281 tw2179867378933560962 tw15954665516135310101 tw580515352372140879 tw14911780828788247388 tw7198935036482483579 tw17883305337976379829 tw8549549427605524394 tw5690811322754565722 tw8923369570173655747 tw2746736862371134230 tw4832768666319715810:True)
open PySem PySem.W PyProof.Rows Pq
theorem PySem.Challenge.cw_printwell_k31_form_holds : PySem.Challenge.rw_printwell_k31_form.Holds := by
  w_on; o_law; k_head; (case hw => w_witness2)
  k_fill
  refine Pq.walk (l := PySem.Challenge.rw_printwell_k31_form) rfl rfl (λw h Y => PySem.W.kIn_of Y) ?F
  case F =>
    intro w mg fa h KX G hmg;refine' Pq.all_mk KX G hmg ?M4 ?M5 ?M7 ?eB ?bD ?bT ?M8 ?M9 ?Ma ?Mf ?Mg ?Mh ?Mi ?Mj ?Ml ?Mp ?Mq ?Mr ?Mt ?Mu ?Mv ?Mw ?Mx ?Mz ?MF ?MJ ?MK ?MP ?N0 ?N5 ?N6 ?N7 ?N8 ?N9 ?Nb ?Nf ?Ng ?Nh ?Nj ?Dw ?Nk ?Nm ?Np ?Nq ?Nr ?Nt ?Nu ?Nv ?Nx ?Ny ?Nz ?NK ?NP ?NQ ?NT ?NZ ?O0 ?O1 ?O2 ?O3 ?O4 ?O5 ?tV ?O6 ?O7 ?tW ?O8 ?O9 ?Oa ?tX ?Ob ?Oc ?Od ?oG ?Dy ?Dz ?Oe ?DG ?Al ?DK ?xQ ?Og ?zdict ?xo ?lB ?lC ?q1 ?q2 ?q3 ?q4 ?lT ?lU ?p1 ?w1 ?p2 ?w2 ?p3 ?w3 ?gW ?lW ?Oh ?Oi ?r1 ?r2 ?r3 ?gS ?r4 ?q5 ?q6 ?q7 ?q8 ?q9 ?rC ?Oj
    (case M4|M5|M7|eB|bD|bT => k_is)
    (case M8|M9|Ma|Mf|Mg|Mh|Mi|Mj|Ml|Mp|Mq|Mr|Mt|Mu|Mv|Mw|Mx|Mz|MF|MJ|MK|MP|N0|N5|N6|N7|N8|N9|Nb|Nf|Ng|Nh|Nj|Dw => apply f9 <;> k_is)
    (case Nk|Nm|Np|Nq|Nr|Nt|Nu|Nv|Nx|Ny|Nz|NK|NP|NQ|NT|NZ|O0|O1|O2|O3|O4|O5 => apply iM <;> k_is)
    (case tV => refine ⟨?_, ?_, ?_, ?_, ?_, ?_⟩ <;> k_is)
    (case O6|O7 => k_is)
    (case tW => refine ⟨?_, ?_, ?_, ?_, ?_, ?_⟩ <;> k_is)
    (case O8|O9|Oa => k_is)
    (case tX => refine ⟨?_, ?_, ?_, ?_, ?_, ?_⟩ <;> k_is)
    (case Ob|Oc|Od|oG|Dy|Dz|Oe|DG|Al|DK|xQ|Og|zdict => k_is)
    (case xo => k_exc)
    (case lB => k_is)
    (case lC => exact rfl)
    (case q1|q2|q3|q4 => rfl)
    (case lT => k_is)
    (case lU => exact rfl)
    (case p1|w1|p2|w2|p3|w3 => rfl)
    (case gW|lW => k_is)
    (case Oh|Oi => exact rfl)
    (case r1|r2|r3 => rfl)
    (case gS => k_is)
    (case r4 => rfl)
    (case q5|q6 => kernel_rfl)
    (case q7 => rfl)
    (case q8|q9|rC => kernel_rfl)
    (case Oj => rfl)
