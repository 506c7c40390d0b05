import PyProof.Rows.All
import Wide.All
import OpenK.AllK
import Wide.FinOn
import Lean
import PyProof.EqAt
import PyProof.EqKinds
import PyProof.TupleCall
import PySem.Challenge.RW_printwell_k21_wrong_places
set_option Elab.async false
set_option linter.all false
set_option maxRecDepth 100000
set_option maxHeartbeats 4000000
namespace L2
open PySem PySem.Spec PyProof.Rows
abbrev Key:=Sum Int Str
def ym7:Key→Value→Bool
 |.inl k,v=>Value.isInt k v
 |.inr x,v=>Value.isStrOf x v
def keyH(w:World):Key→Int
 |.inl k=>hashInt k
 |.inr x=>hashStr w x
theorem ze8:∀ {k:Key} {v:Value},ym7 k v=true→(∃i t,k=Sum.inl i∧v=Value.int i t)∨(∃x t,k=Sum.inr x∧v=Value.str x t)
 |.inl i,v,h=>by
  obtain⟨t,e⟩:=Value.isInt_shape (k:=i) (v:=v) h
  exact .inl ⟨i,t,rfl,e⟩
 |.inr x,v,h=>by
  obtain⟨t,e⟩:=Value.isStrOf_shape (x:=x) (v:=v) h
  exact .inr ⟨x,t,rfl,e⟩
theorem keyIs_int(i:Int)(t:Tok):ym7 (.inl i) (.int i t)=true:=by simp[ym7,Value.isInt]
theorem keyIs_str(x:Str)(t:Tok):ym7 (.inr x) (.str x t)=true:=by simp[ym7,Value.isStrOf]
theorem key_ll(a b:Int):decide ((Sum.inl a:Key)=Sum.inl b)=(a==b):=by
 by_cases e:a=b
 ·subst e;simp
 ·have h:¬(Sum.inl a:Key)=Sum.inl b:=fun q=>e (Sum.inl.inj q)
  rw[decide_eq_false h]
  exact(beq_eq_false_iff_ne.mpr e).symm
theorem key_rr(a b:Str):decide ((Sum.inr a:Key)=Sum.inr b)=decide (a=b):=by
 by_cases e:a=b
 ·subst e;simp
 ·have h:¬(Sum.inr a:Key)=Sum.inr b:=fun q=>e (Sum.inr.inj q)
  rw[decide_eq_false h,decide_eq_false e]
theorem key_lr(a:Int)(b:Str):decide ((Sum.inl a:Key)=Sum.inr b)=false:=decide_eq_false (fun q=>nomatch q)
theorem key_rl(a:Str)(b:Int):decide ((Sum.inr a:Key)=Sum.inl b)=false:=decide_eq_false (fun q=>nomatch q)
def zg0 (prog : Program) (w : World) : PySem.KeyKind prog w Key where
  is := ym7
  hash := keyH w
  inj := fun v a b ha hb => by
    rcases ze8 ha with ⟨i, t, rfl, rfl⟩ | ⟨x, t, rfl, rfl⟩
    · rcases ze8 hb with ⟨j, u, rfl, e⟩ | ⟨y, u, rfl, e⟩
      · injection e with e1 _; rw [e1]
      · exact nomatch e
    · rcases ze8 hb with ⟨j, u, rfl, e⟩ | ⟨y, u, rfl, e⟩
      · exact nomatch e
      · injection e with e1 _; rw [e1]
  byValue := fun k v h => by
    rcases ze8 h with ⟨i, t, rfl, rfl⟩ | ⟨x, t, rfl, rfl⟩ <;> rfl
  pyHash := fun hv h => by
    rcases ze8 hv with ⟨i, t, rfl, rfl⟩ | ⟨x, t, rfl, rfl⟩
    · exact wpAny_pyHash_int h
    · exact wpAny_pyHash_str h
  eqBool := fun hu hv h => by
    rcases ze8 hu with ⟨i, t, rfl, rfl⟩ | ⟨x, t, rfl, rfl⟩
    · rcases ze8 hv with ⟨j, u, rfl, rfl⟩ | ⟨y, u, rfl, rfl⟩
      · rw [key_ll] at h; exact wpAny_eqBool_int h
      · rw [key_lr] at h; exact SeqAt.EqAt.int_str i t y u _ _ _ _ h
    · rcases ze8 hv with ⟨j, u, rfl, rfl⟩ | ⟨y, u, rfl, rfl⟩
      · rw [key_rl] at h; exact SeqAt.EqAt.str_int x t j u _ _ _ _ h
      · rw [key_rr] at h; exact wpAny_eqBool_str h
  «strs» := fun k x t v h => by
    rcases ze8 h with ⟨i, u, rfl, e⟩ | ⟨y, u, rfl, e⟩
    · exact nomatch e
    · injection e with e1 _
      subst e1
      cases v <;> rfl
theorem yg1(prog:Program)(w:World)(i:Int)(t:Tok):(zg0 prog w).is (.inl i) (.int i t)=true:=keyIs_int i t
theorem yg0(prog:Program)(w:World)(x:Str)(t:Tok):(zg0 prog w).is (.inr x) (.str x t)=true:=keyIs_str x t
inductive V where
 |non|bl (b:Bool)|int (i:Int)|str (x:Str)|byt (b:Array UInt8)|flt (b:UInt64)|ref (a:Addr)|ty (n:String)
 deriving DecidableEq
def RelV:V→Value→Prop
 |.non,u=>u=Value.none
 |.bl b,u=>u=Value.bool b
 |.int i,u=>∃t,u=Value.int i t
 |.str x,u=>∃t,u=Value.str x t
 |.byt b,u=>∃t,u=Value.bytes b t
 |.flt b,u=>∃t,u=Value.float b t
 |.ref a,u=>u=Value.ref a
 |.ty n,u=>u=Value.type n
abbrev Vals:List V→List Value→Prop:=Paired RelV
theorem Vals.length{xs:List V}{us:List Value}(r:Vals xs us):xs.length=us.length:=Paired.length r
theorem Vals.get:∀ {xs:List V} {us:List Value} {i:Nat} {x:V},Vals xs us→xs[i]? = some x→∃u,us[i]? = some u∧RelV x u
 |_,_,_,_,.nil,e=>by simp at e
 |_,_,0,_,.cons r _,e=>by simp at e;subst e;exact⟨_,rfl,r⟩
 |_,_,i+1,x,.cons _ t,e=>by
  obtain⟨u,h1,h2⟩:=Vals.get (i:=i) (x:=x) t (by simpa using e)
  exact⟨u,by simpa using h1,h2⟩
theorem Vals.set{x:V}{u:Value}(r:RelV x u):∀ {xs:List V} {us:List Value} (i:Nat),Vals xs us→Vals (xs.set i x) (us.set i u)
 |_,_,_,.nil=>.nil
 |_,_,0,.cons _ t=>.cons r t
 |_,_,i+1,.cons q t=>.cons q (Vals.set r i t)
theorem Vals.append:∀ {xs ys:List V} {us ws:List Value},Vals xs us→Vals ys ws→Vals (xs++ys) (us++ws)
 |_,_,_,_,.nil,s=>s
 |_,_,_,_,.cons r t,s=>.cons r (Vals.append t s)
theorem Vals.take:∀ {xs:List V} {us:List Value} (n:Nat),Vals xs us→Vals (xs.take n) (us.take n)
 |_,_,0,_=>.nil
 |_,_,_+1,.nil=>.nil
 |_,_,n+1,.cons r t=>.cons r (Vals.take n t)
theorem Vals.drop:∀ {xs:List V} {us:List Value} (n:Nat),Vals xs us→Vals (xs.drop n) (us.drop n)
 |_,_,0,r=>r
 |_,_,_+1,.nil=>.nil
 |_,_,n+1,.cons _ t=>Vals.drop n t
theorem Vals.none_of:∀ {xs:List V} {us:List Value} {i:Nat},Vals xs us→xs[i]? = none→us[i]? = none:=fun {xs us i} r e=>by
 have h1:=r.length
 have h2:xs.length≤i:=List.getElem?_eq_none_iff.mp e
 exact List.getElem?_eq_none_iff.mpr (by omega)
def RelO:Option V→Option Value→Prop
 |some v,some u=>RelV v u
 |none,none=>True
 |_,_=>False
def KV{κ:Type}:List (κ×V)→List (κ×Value)→Prop:=Paired fun(p:κ×V) (q:κ×Value)=>p.1=q.1∧RelV p.2 q.2
def kV:Key→V
 |.inl i=>.int i
 |.inr x=>.str x
inductive HO where
 |lst (xs:List V)
 |tup (xs:List V)
 |dK (kvs:List (Key×V))|dT (kvs:List (List Key×V))
 |set (S:Int→Bool) (n:Nat)
 |ins (C dx:Addr) (fs:List (Str×V))
 |own (x:Addr)
 |xd (fs:List (Str×V))
 |met (f x:Addr)
 |rng (lo hi:Int)
 |frz (o:Obj) (u:HO)
 |tbl (ps:Array Value)
 |ext (φ:Heap→Prop)
abbrev Hp:=Addr→Option HO
def upd(H:Hp)(a:Addr)(o:HO):Hp:=fun b=>if b=a then some o else H b
theorem za2{H:Hp}{a:Addr}{o:HO}:upd H a o a=some o:=by unfold upd;rw[if_pos rfl]
theorem zb8{H:Hp}{a b:Addr}{o:HO}(h:b≠a):upd H a o b=H b:=by unfold upd;rw[if_neg h]
theorem ne_of{H:Hp}{a b:Addr}{o u:HO}(h:H a=some o)(h':H b=some u)(d:o≠u):a≠b:=by
 intro e;subst e;rw[h] at h';exact d (Option.some.inj h')
theorem zb6{H:Hp}{a b:Addr}{o:HO}(h:H a=some o)(h':H b=none):a≠b:=by
 intro e;subst e;rw[h] at h';cases h'
section
variable (P:Program)(w:World)
def ObjOk(H:Hp)(h:Heap)(a:Addr):HO→Prop
 |.lst xs=>xs.length≤sizeLine∧∃(its:List Value) (n:Nat),Vals xs its∧h.get? a=some { cls:=.type "list",data:=.seq its.toArray n }
 |.tup xs=>xs.length≤sizeLine∧∃its:List Value,Vals xs its∧IsTup h a its.toArray
 |.dK kvs=>kvs.length≤sizeLine∧(a==sysModules)=false∧∃vs,KV kvs vs∧h.DictOf (zg0 P w) a vs
 |.dT kvs=>kvs.length≤sizeLine∧(a==sysModules)=false∧∃xs:List (List Key×Addr×Value),
   Paired (fun(p:List Key×V) (q:List Key×Addr×Value)=>p.1=q.1∧H q.2.1=some (.tup (p.1.map kV))∧RelV p.2 q.2.2) kvs xs∧
   ∃o es ep,h.get? a=some o∧o.ExactDict∧o.data=.dict es ep∧es.toList=xs.map (entryOfKey (tupleKind (zg0 P w)))∧(xs.map (·.1)).Nodup
 |.set S n=>h.SetOf (intKind P w) a S n
 |.ins C dx fs=>H dx=some (.own a)∧fs.length≤1000∧dx≠a∧h.get? a=some (PySem.W.instObj C dx)∧
   ∃mA,h.Ns1 dx mA∧(∀f,RelO (fs.lookup f) (mA f))∧PySem.Within mA (fs.map (·.1))
 |.own _=>∃o,h.get? a=some o
 |.xd fs=>∃mA,h.Ns1 a mA∧∀f,RelO (fs.lookup f) (mA f)
 |.rng lo hi=>∃t u v,h.get? a=some { cls:=.type "range",data:=.fields #[.int lo t,.int hi u,.int 1 v] }
 |.frz o u=>h.get? a=some o∧ObjOk H h a u
 |.tbl ps=>h.get? a=some { cls:=.none,data:=.fields ps }
 |.met f x=>h.get? a=some (PySem.W.methodObj (.ref f) (.ref x))
 |.ext φ=>φ h∧(∃o,h.get? a=some o)∧∀h1 h2:Heap,φ h1→(∀o,h1.get? a=some o→h2.get? a=some o)→φ h2
def HOk(H:Hp)(h:Heap):Prop:=∀a o,H a=some o→ObjOk P w H h a o
end
section
variable {P:Program}{w:World}{H H':Hp}{h h':Heap}{a:Addr}{o:HO}
theorem ObjOk.lt(x:ObjOk P w H h a o):a<h.objs.size:=by
 cases o with
 |lst xs=>obtain⟨_,_,_,_,e⟩:=x;exact Heap.lt_size e
 |tup xs=>obtain⟨_,_,_,p⟩:=x;exact p.lt
 |dK kvs=>obtain⟨_,_,_,_,o,_,_,e,_⟩:=x;exact Heap.lt_size e
 |dT kvs=>obtain⟨_,_,_,_,o,_,_,e,_⟩:=x;exact Heap.lt_size e
 |set S n=>obtain⟨o,_,_,_,e,_⟩:=x;exact Heap.lt_size e
 |ins C dx fs=>obtain⟨_,_,_,e,_⟩:=x;exact Heap.lt_size e
 |own y=>obtain⟨_,e⟩:=x;exact Heap.lt_size e
 |xd fs=>obtain⟨_,⟨_,_,_,e,_⟩,_⟩:=x;exact Heap.lt_size e
 |rng lo hi=>obtain⟨_,_,_,e⟩:=x;exact Heap.lt_size e
 |frz ob u=>obtain⟨e,_⟩:=x;exact Heap.lt_size e
 |tbl ps=>exact Heap.lt_size (show h.get? a=some _ from x)
 |met f y=>exact Heap.lt_size (show h.get? a=some _ from x)
 |ext φ=>obtain⟨_,⟨_,e⟩,_⟩:=x;exact Heap.lt_size e
theorem Paired.mapP{α β:Type}{F G:α→β→Prop}:∀ {l₁:List α} {l₂:List β},Paired F l₁ l₂→(∀a b,F a b→G a b)→Paired G l₁ l₂
 |_,_,.nil,_=>.nil
 |_,_,.cons r t,f=>.cons (f _ _ r) (Paired.mapP t f)
theorem ObjOk.stay(x:ObjOk P w H h a o)(k:∀b u,(b=a∨H b=some (.own a))→h.get? b=some u→h'.get? b=some u)
  (ho:∀b,H b=some (.own a)→H' b=some (.own a)) (ht:∀b xs,H b=some (.tup xs)→H' b=some (.tup xs)):ObjOk P w H' h' a o:=by
 induction o with
 |lst xs=>obtain⟨z,its,n,r,e⟩:=x;exact⟨z,its,n,r,k _ _ (.inl rfl) e⟩
 |tup xs=>obtain⟨z,its,r,ob,e,c⟩:=x;exact⟨z,its,r,ob,k _ _ (.inl rfl) e,c⟩
 |dK kvs=>obtain⟨z,y,vs,r,ob,es,ep,e,c⟩:=x;exact⟨z,y,vs,r,ob,es,ep,k _ _ (.inl rfl) e,c⟩
 |dT kvs=>
  obtain⟨z,y,xs,r,ob,es,ep,e,c⟩:=x
  exact⟨z,y,xs,Paired.mapP r fun p q z=>⟨z.1,ht _ _ z.2.1,z.2.2⟩,ob,es,ep,k _ _ (.inl rfl) e,c⟩
 |set S n=>obtain⟨ob,es,ep,t,e,c⟩:=x;exact⟨ob,es,ep,t,k _ _ (.inl rfl) e,c⟩
 |ins C dx fs=>
  obtain⟨d,z,ne,e,mA,⟨od,es,ep,e2,c⟩,r⟩:=x
  exact⟨ho _ d,z,ne,k _ _ (.inl rfl) e,mA,⟨od,es,ep,k _ _ (.inr d) e2,c⟩,r⟩
 |own y=>obtain⟨ob,e⟩:=x;exact⟨ob,k _ _ (.inl rfl) e⟩
 |xd fs=>obtain⟨mA,⟨od,es,ep,e,c⟩,r⟩:=x;exact⟨mA,⟨od,es,ep,k _ _ (.inl rfl) e,c⟩,r⟩
 |rng lo hi=>obtain⟨t,u,v,e⟩:=x;exact⟨t,u,v,k _ _ (.inl rfl) e⟩
 |frz ob u ih=>obtain⟨e,q⟩:=x;exact⟨k _ _ (.inl rfl) e,ih q⟩
 |tbl ps=>
  have e:h.get? a=some { cls:=.none,data:=.fields ps }:=x
  show h'.get? a=some { cls:=.none,data:=.fields ps }
  exact k a _ (.inl rfl) e
 |met f y=>
  have e:h.get? a=some (PySem.W.methodObj (.ref f) (.ref y)):=x
  show h'.get? a=some (PySem.W.methodObj (.ref f) (.ref y))
  exact k a _ (.inl rfl) e
 |ext φ=>obtain⟨p,⟨o,e⟩,st⟩:=x;exact⟨st _ _ p fun o q=>k _ _ (.inl rfl) q,⟨o,k _ _ (.inl rfl) e⟩,st⟩
theorem HOk.lt(x:HOk P w H h)(e:H a=some o):a<h.objs.size:=(x a o e).lt
theorem HOk.fresh(x:HOk P w H h)(e:h.objs.size≤a):H a=none:=by
 cases q:H a with
 |none=>rfl
 |some u=>exact absurd (Nat.lt_of_lt_of_le (x.lt q) e) (Nat.lt_irrefl _)
theorem HOk.kept(x:HOk P w H h)(k:∀b u,h.get? b=some u→h'.get? b=some u):HOk P w H h':=fun a o e=>
 (x a o e).stay (fun b u _ q=>k b u q) (fun _ q=>q) fun _ _ q=>q
theorem HOk.laid(x:HOk P w H h)(k:∀b u,h.get? b=some u→h'.get? b=some u)(hp:h.objs.size≤a)(new:ObjOk P w (upd H a o) h' a o):HOk P w (upd H a o) h':=fun b u e=>by
 have hn:=x.fresh hp
 by_cases hb:b=a
 ·subst hb;rw[za2] at e;cases e;exact new
 ·rw[zb8 hb] at e
  exact(x b u e).stay (fun c v _ q=>k c v q) (fun c q=>by rw[zb8 (zb6 q hn)];exact q) fun c xs q=>by rw[zb8 (zb6 q hn)];exact q
end
def Rd(H:Hp)(a:Addr)(u:HO):Prop:=H a=some u∨∃o,H a=some (.frz o u)
theorem Rd.of{H:Hp}{a:Addr}{u:HO}(h:H a=some u):Rd H a u:=.inl h
theorem Rd.ok{P:Program}{w:World}{H:Hp}{h:Heap}{a:Addr}{u:HO}(r:Rd H a u)(x:HOk P w H h):ObjOk P w H h a u:=by
 rcases r with r|⟨o,r⟩
 ·exact x a u r
 ·obtain⟨_,q⟩:=x a _ r
  exact q
def Mut:Option HO→Prop
 |some (.lst _)=>True
 |some (.dK _)=>True
 |some (.dT _)=>True
 |some (.set _ _)=>True
 |some (.ins _ _ _)=>True
 |some (.ext _)=>True
 |_=>False
section
variable {P:Program}{w:World}{H:Hp}{h h':Heap}{x e:Addr}{o':HO}
theorem HOk.write(ok:HOk P w H h)(mu:Mut (H x))(he:e=x∨H e=some (.own x))(k:∀b u,b≠e→h.get? b=some u→h'.get? b=some u)(heo:∃u,h'.get? e=some u)
  (new:ObjOk P w (upd H x o') h' x o'):HOk P w (upd H x o') h':=fun b u q=>by
 have nown:∀c y,H c=some (.own y)→c≠x:=fun c y r z=>by subst z;rw[r] at mu;exact mu
 have ntup:∀c xs,H c=some (.tup xs)→c≠x:=fun c xs r z=>by subst z;rw[r] at mu;exact mu
 by_cases hb:b=x
 ·subst hb;rw[za2] at q;cases q;exact new
 ·rw[zb8 hb] at q
  by_cases hbe:b=e
  ·have q':H b=some (.own x):=by
    rcases he with z|z
    ·exact absurd (hbe.trans z) hb
    ·rw[hbe];exact z
   rw[q] at q';cases q'
   obtain⟨v,hv⟩:=heo
   exact⟨v,by rw[hbe];exact hv⟩
  ·refine(ok b u q).stay (fun c v hc r=>k c v ?_ r) (fun c r=>by rw[zb8 (nown c b r)];exact r) fun c xs r=>by rw[zb8 (ntup c xs r)];exact r
   rcases hc with rfl|hc
   ·exact hbe
   ·rintro rfl
    rcases he with z|z
    ·exact nown c b hc z
    ·rw[hc] at z;cases z;exact hb rfl
end
structure Un(fs ex:List Addr)(H H':Hp)(h h':Heap):Prop where
 keep:∀b o,h.get? b=some o→H b=none→b∉fs→b∉ex→h'.get? b=some o
 slot:∀b o,h.get? b=some o→H b=none→b∈fs→b∉ex→∃sl,h'.get? b=some { o with slots:=sl }
 free:∀b o,h.get? b=some o→H b=none→b∉ex→H' b=none
 there:∀b o,h.get? b=some o→b∉ex→∃o',h'.get? b=some o'
 tups:∀b xs,H b=some (.tup xs)→H' b=some (.tup xs)
 frzs:∀b o u,H b=some (.frz o u)→H' b=some (.frz o u)
 tbls:∀b ps,H b=some (.tbl ps)→∃more,H' b=some (.tbl (ps++more))
section
variable {fs fs' ex ex':List Addr}{H H1 H2:Hp}{h h1 h2 h':Heap}{a x e:Addr}{o:HO}
theorem Un.any(u:Un fs ex H H1 h h1){b:Addr}{ob:Obj}(q:h.get? b=some ob)(n:H b=none)(hx:b∉ex):∃sl,h1.get? b=some { ob with slots:=sl }:=by
 by_cases hb:b∈fs
 ·exact u.slot b ob q n hb hx
 ·exact⟨ob.slots,u.keep b ob q n hb hx⟩
theorem Un.trans(a:Un fs ex H H1 h h1)(b:Un fs ex H1 H2 h1 h2):Un fs ex H H2 h h2 where
 keep:=fun c ob q n hc hx=>b.keep c ob (a.keep c ob q n hc hx) (a.free c ob q n hx) hc hx
 slot:=fun c ob q n hc hx=>by
  obtain⟨sl,e1⟩:=a.slot c ob q n hc hx
  obtain⟨sl',e2⟩:=b.slot c _ e1 (a.free c ob q n hx) hc hx
  exact⟨sl',e2⟩
 free:=fun c ob q n hx=>by
  obtain⟨o',e1⟩:=a.there c ob q hx
  exact b.free c o' e1 (a.free c ob q n hx) hx
 there:=fun c ob q hx=>by
  obtain⟨o',e1⟩:=a.there c ob q hx
  exact b.there c o' e1 hx
 tups:=fun c xs q=>b.tups c xs (a.tups c xs q)
 frzs:=fun c ob xs q=>b.frzs c ob xs (a.frzs c ob xs q)
 tbls:=fun c ps q=>by
  obtain⟨m1,e1⟩:=a.tbls c ps q
  obtain⟨m2,e2⟩:=b.tbls c _ e1
  exact⟨m1++m2,by rw[e2,Array.append_assoc]⟩
theorem Un.kept(k:∀b u,h.get? b=some u→h'.get? b=some u):Un fs ex H H h h':=
 ⟨fun b ob q _ _ _=>k b ob q,fun b ob q _ _ _=>⟨ob.slots,k b ob q⟩,fun _ _ _ n _=>n,fun b ob q _=>⟨ob,k b ob q⟩,fun _ _ q=>q,fun _ _ _ q=>q,fun _ ps q=>⟨#[],by rw[q];simp⟩⟩
theorem Un.refl:Un fs ex H H h h:=Un.kept fun _ _ q=>q
theorem Un.laid(k:∀b u,h.get? b=some u→h'.get? b=some u)(hp:h.objs.size≤a)(hn:H a=none):Un fs ex H (upd H a o) h h' where
 keep:=fun b u q _ _ _=>k b u q
 slot:=fun b u q _ _ _=>⟨u.slots,k b u q⟩
 free:=fun b u q n _=>by rw[zb8 (Nat.ne_of_lt (Nat.lt_of_lt_of_le (Heap.lt_size q) hp))];exact n
 there:=fun b u q _=>⟨u,k b u q⟩
 tups:=fun b xs q=>by rw[zb8 (zb6 q hn)];exact q
 frzs:=fun b u xs q=>by rw[zb8 (zb6 q hn)];exact q
 tbls:=fun b ps q=>⟨#[],by rw[zb8 (zb6 q hn),q];simp⟩
theorem Un.write(mu:Mut (H x))(he:e=x∨H e=some (.own x))(k:∀b u,b≠e→h.get? b=some u→h'.get? b=some u)(heo:∃u,h'.get? e=some u):Un fs ex H (upd H x o) h h':=by
 have hx:∀b,H b=none→b≠x:=fun b n z=>by subst z;rw[n] at mu;exact mu
 have hb:∀b,H b=none→b≠e:=fun b n z=>by
  subst z
  rcases he with r|r
  ·exact hx b n r
  ·rw[n] at r;cases r
 have hm:∀b u,H b=some u→¬Mut (some u)→b≠x:=fun b u q nm z=>by subst z;rw[q] at mu;exact nm mu
 refine⟨fun b u q n _ _=>k b u (hb b n) q,fun b u q n _ _=>⟨u.slots,k b u (hb b n) q⟩,fun b u q n _=>by rw[zb8 (hx b n)];exact n,fun b u q _=>?_,
  fun b xs q=>by rw[zb8 (hm b _ q fun z=>z)];exact q,fun b u xs q=>by rw[zb8 (hm b _ q fun z=>z)];exact q,fun b ps q=>⟨#[],by rw[zb8 (hm b _ q fun z=>z),q];simp⟩⟩
 by_cases hbe:b=e
 ·subst hbe;exact heo
 ·exact⟨u,k b u hbe q⟩
theorem Un.mono(u:Un fs ex H H1 h h1)(hs:∀b∈fs,b∈fs')(hx:∀b∈ex,b∈ex'):Un fs' ex' H H1 h h1:=
 ⟨fun b ob q n hb he=>u.keep b ob q n (fun z=>hb (hs b z)) fun z=>he (hx b z),fun _ _ q n _ he=>u.any q n fun z=>he (hx _ z),fun b ob q n he=>u.free b ob q n fun z=>he (hx b z),fun b ob q he=>u.there b ob q fun z=>he (hx b z),u.tups,u.frzs,u.tbls⟩
end
def trk(h:Heap)(H:Hp):List Addr:=(List.range h.objs.size).filter fun a=>(H a).isSome
def hidT(h:Heap)(H:Hp):Heap:=PySem.W.hideAll h (trk h H)
theorem hidT_size(h:Heap)(H:Hp):(hidT h H).objs.size=h.objs.size:=PySem.W.hideAll_size _ _
theorem hidT_get{h:Heap}{H:Hp}{b:Addr}{o:Obj}(e:h.get? b=some o)(n:H b=none):(hidT h H).get? b=some o:=
 PySem.W.hideAll_get _ e fun hm=>by
  have q:(H b).isSome=true:=(List.mem_filter.mp hm).2
  rw[n] at q;simp at q
theorem of_hidT{h:Heap}{H:Hp}{b:Addr}{o:Obj}(e:(hidT h H).get? b=some o):h.get? b=some o∧H b=none:=by
 have e':h.get? b=some o:=PySem.W.of_hideAll (trk h H) e
 refine⟨e',?_⟩
 cases q:H b with
 |none=>rfl
 |some x=>
  have hm:b∈trk h H:=List.mem_filter.mpr ⟨List.mem_range.mpr (Heap.lt_size e'),by simp[q]⟩
  have z:(hidT h H).get? b=none:=PySem.W.hideAll_none (trk h H) hm
  rw[z] at e;cases e
def allNews(g h:Heap)(L:Addr):List (Addr×Obj):=(List.range h.objs.size).filterMap fun a=>if a=L∨(g.get? a).isSome=true then none else(h.get? a).map fun o=>(a,o)
def rest(g h:Heap)(L d:Addr):List (Addr×Obj):=(allNews g h L).filter fun p=>decide (p.1≠d)
structure Mod(K:PySem.W.Frag)(mg:Str→Option Value)(base:Heap):Prop where
 kin:K.In base
 glob:base.Ns mainGlobals mg
 blt:∃mb,base.Ns builtinsNs mb∧∀x:Str,x≠"__name__"→mb x=bootBuiltins x
 nolimit:base.NoLimit
structure Cx where
 prog:Program
 w:World
 K:PySem.W.Frag
 mg:Str→Option Value
 base:Heap
 A:Around
 N:List Str
 s₀:Shared
 H₀:Hp
 env:Env
 outer:List Env
 stack:List Env
 ex:List Addr
 fn:Str→Bool
 calm:Bool
 pn:List (Addr×Obj)
 xe:Value→Shared→Prop
def frs(l:List Env):List Addr:=l.filterMap (·.frame)
abbrev Cx.fs(X:Cx):List Addr:=frs X.outer
def Vis(sc:Scope)(x:Str):Prop:=sc.names.lookup x=some .local∨sc.names.lookup x=some .cell∨sc.names.lookup x=some .free
def Loc(sc:Scope)(x:Str):Prop:=sc.names.lookup x=some .local∨sc.names.lookup x=some .cell
def Look(env:Env)(h:Heap)(m:Str→Option Value)(x:Str)(u:Value):Prop:=
 (env.kindOf x=some .local∧m x=some u)∨((env.kindOf x=some .cell∨env.kindOf x=some .free)∧∃c,env.cells.lookup x=some c∧h.IsCell c (some u))
structure Cx.Ok(X:Cx):Prop where
 mod:Mod X.K X.mg X.base
 kind:X.env.scope.kind=.function
 glob:X.env.globals=mainGlobals
 blt:X.env.builtins=builtinsNs
 above:X.s₀.heap.objs.size≤X.env.locals
 inj:∀x y c,X.env.cells.lookup x=some c→X.env.cells.lookup y=some c→x=y
 has:∀x,(X.env.kindOf x=some .cell∨X.env.kindOf x=some .free)→∃c,X.env.cells.lookup x=some c
 cab:∀x c,X.fn x=true→X.env.cells.lookup x=some c→X.s₀.heap.objs.size≤c
 hd:X.calm=true→X.A.handled=none
 frames:X.A.frames=some X.stack
 stk:X.stack=X.outer∨(X.stack=X.env::X.outer∧X.env.frame=some X.env.locals)
 exf:∀b∈X.ex,b≠X.env.locals∧∀x c,X.env.cells.lookup x=some c→c≠b
 bs:∀b o,X.base.get? b=some o→X.s₀.heap.get? b=some o∧X.H₀ b=none
 bsz:X.base.objs.size≤X.s₀.heap.objs.size
 noex:∀b o,X.base.get? b=some o→b∉X.ex
 exfs:∀b∈X.ex,b∉X.fs
 funs:X.s₀.heap.FunFrames X.base X.outer
 frf:∀b∈X.fs,X.H₀ b=none
structure Inv(X:Cx)(pins:List (Addr×Obj))(σ:List (Option V))(H:Hp)(s:Shared):Prop where
 ok:X.Ok
 os:s.os=X.s₀.os
 bare:AllBare s.gens
 base:Un X.fs X.ex X.H₀ H X.s₀.heap s.heap
 loc:∃m,s.heap.Ns X.env.locals m∧∀(i:Nat) (x:Str) (v:V),X.N[i]? = some x→σ[i]? = some (some v)→Vis X.env.scope x→∃u,RelV v u∧Look X.env s.heap m x u
 cell:∀x c,X.env.cells.lookup x=some c→∃v,s.heap.IsCell c v
 free:H X.env.locals=none
 freeC:∀x c,X.env.cells.lookup x=some c→H c=none
 pin:∀p∈X.pn++pins,s.heap.get? p.1=some p.2∧H p.1=none∧p.1≠X.env.locals∧p.1∉X.fs∧∀v,p.2.data≠.cell v
 hok:HOk X.prog X.w H s.heap
 len:σ.length=X.N.length
section
variable {X:Cx}{pins:List (Addr×Obj)}{σ:List (Option V)}{H H':Hp}{s:Shared}{h':Heap}
theorem Cx.Ok.nofr(ok:X.Ok){b:Addr}{o:Obj}(e:X.base.get? b=some o):b∉X.fs:=fun hb=>by
 have:=(ok.funs.mem hb).1
 rw[e] at this;cases this
theorem Inv.bs(I:Inv X pins σ H s):∀b o,X.base.get? b=some o→s.heap.get? b=some o∧H b=none:=fun b o e=>
 ⟨I.base.keep b o (I.ok.bs b o e).1 (I.ok.bs b o e).2 (I.ok.nofr e) (I.ok.noex b o e),I.base.free b o (I.ok.bs b o e).1 (I.ok.bs b o e).2 (I.ok.noex b o e)⟩
theorem Inv.bk(I:Inv X pins σ H s):∀b o,X.base.get? b=some o→s.heap.get? b=some o:=fun b o e=>(I.bs b o e).1
theorem Inv.mod(I:Inv X pins σ H s):Mod X.K X.mg X.base:=I.ok.mod
theorem Inv.kIn(I:Inv X pins σ H s):X.K.In s.heap:=I.ok.mod.kin.keeps I.bk
theorem Inv.nolimit(I:Inv X pins σ H s):s.heap.NoLimit:=I.ok.mod.nolimit.keeps I.bk
theorem Inv.fr(I:Inv X pins σ H s):∃m,Fr X.base X.env.locals s.heap m:=
 let ⟨m,hn,_⟩:=I.loc
 ⟨m,hn,I.bk,Nat.le_trans I.ok.bsz I.ok.above⟩
theorem Inv.lt(I:Inv X pins σ H s):X.env.locals<s.heap.objs.size:=let ⟨_,hn,_⟩:=I.loc;hn.lt
theorem Inv.sz(I:Inv X pins σ H s):X.s₀.heap.objs.size≤s.heap.objs.size:=Nat.le_trans I.ok.above (Nat.le_of_lt I.lt)
theorem Inv.nofs(I:Inv X pins σ H s){a:Addr}(h:s.heap.objs.size≤a):a∉X.fs:=fun hb=>by
 obtain⟨_,o,ho,_⟩:=I.ok.funs.mem hb
 exact absurd (Nat.lt_of_lt_of_le (Heap.lt_size ho) (Nat.le_trans I.sz h)) (Nat.lt_irrefl _)
theorem Inv.cne(I:Inv X pins σ H s):∀x c,X.env.cells.lookup x=some c→c≠X.env.locals:=fun x c e z=>by
 obtain⟨v,o,ho,hd⟩:=I.cell x c e
 obtain⟨m,⟨o',es,ep,ho',hd',_⟩,_⟩:=I.loc
 rw[z,ho'] at ho;cases ho;rw[hd'] at hd;cases hd
theorem Inv.funs(I:Inv X pins σ H s):s.heap.FunFrames X.base X.outer:=by
 have all:∀(l:List Env),(∀b∈frs l,b∈X.fs)→X.s₀.heap.FunFrames X.base l→s.heap.FunFrames X.base l:=by
  intro l
  induction l with
  |nil=>intro _ _;trivial
  |cons env r ih=>
   intro hs hl
   obtain⟨hk,⟨L,o,hf,hn,ho,hd⟩,hr⟩:=hl
   have hL:L∈X.fs:=hs L (by unfold frs;rw[List.filterMap_cons,hf];exact List.mem_cons_self)
   obtain⟨sl,e⟩:=I.base.slot L o ho (I.ok.frf L hL) hL fun z=>I.ok.exfs L z hL
   exact⟨hk,⟨L,_,hf,hn,e,hd⟩,ih (fun b hb=>hs b (by unfold frs;rw[List.filterMap_cons,hf];exact List.mem_cons_of_mem _ hb)) hr⟩
 exact all X.outer (fun _ hb=>hb) I.ok.funs
theorem Inv.stack(I:Inv X pins σ H s):s.heap.FunFrames X.base X.stack:=by
 rcases I.ok.stk with e|⟨e,hf⟩
 ·rw[e];exact I.funs
 ·rw[e]
  obtain⟨m,hn,_⟩:=I.loc
  refine .cons (by rw[I.ok.kind];decide) hf hn ?_ I.funs
  exact Heap.get?_none_of_le (Nat.le_trans I.ok.bsz I.ok.above)
theorem Inv.stkSub(I:Inv X pins σ H s):∀b∈frs X.stack,b∈X.env.locals::X.fs:=fun b hb=>by
 rcases I.ok.stk with e|⟨e,hf⟩
 ·rw[e] at hb;exact List.mem_cons_of_mem _ hb
 ·rw[e] at hb
  unfold frs at hb
  rw[List.filterMap_cons,hf] at hb
  exact hb
theorem Inv.stkFree(I:Inv X pins σ H s):∀b∈frs X.stack,H b=none:=fun b hb=>by
 rcases List.mem_cons.mp (I.stkSub b hb) with e|hb
 ·rw[e];exact I.free
 ·obtain⟨_,o,ho,_⟩:=I.ok.funs.mem hb
  exact I.base.free b o ho (I.ok.frf b hb) fun z=>I.ok.exfs b z hb
theorem Inv.step{g':Array GenState}{t':Nat}{d':Drawn}{ch:List Addr}(I:Inv X pins σ H s)
  (hch:∀b∈ch,(b∈X.ex∨X.s₀.heap.objs.size≤b)∧b≠X.env.locals∧(∀x c,X.env.cells.lookup x=some c→c≠b)∧∀p∈X.pn++pins,p.1≠b)
  (keep:∀b o,b≠X.env.locals→b∉X.fs→b∉ch→s.heap.get? b=some o→H b=none→h'.get? b=some o)
  (slot:∀b o,b≠X.env.locals→b∈X.fs→b∉ch→s.heap.get? b=some o→H b=none→∃sl,h'.get? b=some { o with slots:=sl }) (free:∀b o,b∉ch→s.heap.get? b=some o→H b=none→H' b=none)
  (there:∀b o,b∉ch→s.heap.get? b=some o→∃o',h'.get? b=some o')
  (tups:∀b xs,H b=some (.tup xs)→H' b=some (.tup xs)) (frzs:∀b o u,H b=some (.frz o u)→H' b=some (.frz o u)) (tbls:∀b ps,H b=some (.tbl ps)→∃more,H' b=some (.tbl (ps++more)))
  (ns:∀m,s.heap.Ns X.env.locals m→h'.Ns X.env.locals m) (hok:HOk X.prog X.w H' h') (hg:AllBare g'):
  Inv X pins σ H' { s with heap:=h',gens:=g',drawn:=d',toks:=t' }:=by
 have neL:∀b o,X.s₀.heap.get? b=some o→b≠X.env.locals:=fun b o e=>Nat.ne_of_lt (Nat.lt_of_lt_of_le (Heap.lt_size e) I.ok.above)
 have neC:∀b o,X.s₀.heap.get? b=some o→b∉X.ex→b∉ch:=fun b o e hx hb=>by
  rcases(hch b hb).1 with z|z
  ·exact hx z
  ·exact absurd (Nat.lt_of_lt_of_le (Heap.lt_size e) z) (Nat.lt_irrefl _)
 have cellK:∀x c,X.env.cells.lookup x=some c→∀v,s.heap.IsCell c v→h'.IsCell c v:=fun x c e v ⟨o,ho,hd⟩=>by
  have nch:c∉ch:=fun z=>(hch c z).2.2.1 x c e rfl
  by_cases hc:c∈X.fs
  ·obtain⟨sl,q⟩:=slot c o (I.cne x c e) hc nch ho (I.freeC x c e)
   exact⟨_,q,hd⟩
  ·exact⟨o,keep c o (I.cne x c e) hc nch ho (I.freeC x c e),hd⟩
 refine⟨I.ok,I.os,hg,⟨fun b o e n hb hx=>?_,fun b o e n hb hx=>?_,fun b o e n hx=>?_,fun b o e hx=>?_,fun b xs e=>tups b xs (I.base.tups b xs e),fun b o xs e=>frzs b o xs (I.base.frzs b o xs e),fun b ps e=>?_⟩,?_,fun x c e=>?_,?_,fun x c e=>?_,fun p hp=>?_,hok,I.len⟩
 ·exact keep b o (neL b o e) hb (neC b o e hx) (I.base.keep b o e n hb hx) (I.base.free b o e n hx)
 ·obtain⟨sl,e1⟩:=I.base.slot b o e n hb hx
  obtain⟨sl',e2⟩:=slot b _ (neL b o e) hb (neC b o e hx) e1 (I.base.free b o e n hx)
  exact⟨sl',e2⟩
 ·obtain⟨o',e1⟩:=I.base.there b o e hx
  exact free b o' (neC b o e hx) e1 (I.base.free b o e n hx)
 ·obtain⟨o',e1⟩:=I.base.there b o e hx
  exact there b o' (neC b o e hx) e1
 ·obtain⟨m1,e1⟩:=I.base.tbls b ps e
  obtain⟨m2,e2⟩:=tbls b _ e1
  exact⟨m1++m2,by rw[e2,Array.append_assoc]⟩
 ·obtain⟨m,hn,hl⟩:=I.loc
  refine⟨m,ns m hn,fun i x v e1 e2 e3=>?_⟩
  obtain⟨u,r,l⟩:=hl i x v e1 e2 e3
  refine⟨u,r,?_⟩
  rcases l with l|⟨k,c,e,z⟩
  ·exact .inl l
  ·exact .inr ⟨k,c,e,cellK x c e _ z⟩
 ·obtain⟨v,z⟩:=I.cell x c e
  exact⟨v,cellK x c e v z⟩
 ·obtain⟨m,⟨o,_,_,ho,_⟩,_⟩:=I.loc
  exact free _ o (fun z=>(hch _ z).2.1 rfl) ho I.free
 ·obtain⟨v,o,ho,hd⟩:=I.cell x c e
  exact free c o (fun z=>(hch c z).2.2.1 x c e rfl) ho (I.freeC x c e)
 ·obtain⟨e,n,ne,nf,d⟩:=I.pin p hp
  have nch:p.1∉ch:=fun z=>(hch p.1 z).2.2.2 p hp rfl
  exact⟨keep p.1 p.2 ne nf nch e n,free p.1 p.2 nch e n,ne,nf,d⟩
theorem Inv.un{t':Nat}(I:Inv X pins σ H s)(u:Un X.fs [] H H' s.heap h')(hok:HOk X.prog X.w H' h'):Inv X pins σ H' { s with heap:=h',toks:=t' }:=by
 obtain⟨m,⟨o,es,ep,ho,r⟩,_⟩:=id I.loc
 obtain⟨sl,hL⟩:=u.any ho I.free (by simp)
 exact I.step (g':=s.gens) (d':=s.drawn) (ch:=[]) (fun _ z=>nomatch z) (fun b o _ hb _ e n=>u.keep b o e n hb (by simp)) (fun b o _ hb _ e n=>u.slot b o e n hb (by simp)) (fun b o _ e n=>u.free b o e n (by simp)) (fun b o _ e=>u.there b o e (by simp)) u.tups u.frzs u.tbls (fun m' hm=>by
  obtain⟨o',es',ep',ho',r'⟩:=hm
  rw[ho] at ho';cases ho'
  exact⟨_,es',ep',hL,r'⟩) hok I.bare
theorem Inv.call{g':Array GenState}{t':Nat}{d':Drawn}{ch:List Addr}(I:Inv X pins σ H s)(u:Un (frs X.stack) ch H H' s.heap h')(hok:HOk X.prog X.w H' h')(hg:AllBare g')
  (hch:∀b∈ch,(b∈X.ex∨X.s₀.heap.objs.size≤b)∧b≠X.env.locals∧(∀x c,X.env.cells.lookup x=some c→c≠b)∧∀p∈X.pn++pins,p.1≠b):
  Inv X pins σ H' { s with heap:=h',gens:=g',drawn:=d',toks:=t' }:=by
 obtain⟨m,⟨o,es,ep,ho,r⟩,_⟩:=id I.loc
 obtain⟨sl,hL⟩:=u.any ho I.free fun z=>(hch _ z).2.1 rfl
 exact I.step (ch:=ch) hch (fun b o hL hb hc e n=>u.keep b o e n (fun z=>(List.mem_cons.mp (I.stkSub b z)).elim hL hb) hc) (fun b o _ _ hc e n=>u.any e n hc) (fun b o hc e n=>u.free b o e n hc) (fun b o hc e=>u.there b o e hc) u.tups u.frzs u.tbls (fun m' hm=>by
  obtain⟨o',es',ep',ho',r'⟩:=hm
  rw[ho] at ho';cases ho'
  exact⟨_,es',ep',hL,r'⟩) hok hg
theorem Inv.turned{t':Nat}{it:Addr}(I:Inv X pins σ H s)(k:∀b o,b≠it→s.heap.get? b=some o→h'.get? b=some o)(hn:H it=none)(hL:it≠X.env.locals)
  (h1:it∈X.ex∨X.s₀.heap.objs.size≤it) (h2:∀x c,X.env.cells.lookup x=some c→c≠it) (h3:∀p∈X.pn++pins,p.1≠it):Inv X pins σ H { s with heap:=h',toks:=t' }:=by
 have nit:∀b u,H b=some u→b≠it:=fun b u e z=>by rw[z,hn] at e;cases e
 refine I.step (g':=s.gens) (d':=s.drawn) (ch:=[it]) (fun b hb=>?_) (fun b o _ _ hc e _=>k b o (fun z=>hc (by simp[z])) e) (fun b o _ _ hc e _=>⟨o.slots,k b o (fun z=>hc (by simp[z])) e⟩) (fun _ _ _ _ n=>n)
  (fun b o hc e=>⟨o,k b o (fun z=>hc (by simp[z])) e⟩) (fun _ _ e=>e) (fun _ _ _ e=>e) (fun b ps e=>⟨#[],by rw[e];simp⟩) (fun m hm=>?_) (fun b u e=>?_) I.bare
 ·have e:b=it:=by simpa using hb
  subst e
  exact⟨h1,hL,h2,h3⟩
 ·obtain⟨o,es,ep,ho,r⟩:=hm
  exact⟨o,es,ep,k _ o (Ne.symm hL) ho,r⟩
 ·refine(I.hok b u e).stay (fun c v hc q=>k c v ?_ q) (fun _ q=>q) fun _ _ q=>q
  rcases hc with z|z
  ·rw[z];exact nit b u e
  ·exact nit c _ z
theorem Inv.tok(I:Inv X pins σ H s)(t:Nat):Inv X pins σ H { s with toks:=t }:=I.un (h':=s.heap) (t':=t) Un.refl I.hok
theorem Inv.kept{t':Nat}(I:Inv X pins σ H s)(k:∀b u,s.heap.get? b=some u→h'.get? b=some u):Inv X pins σ H { s with heap:=h',toks:=t' }:=I.un (Un.kept k) (I.hok.kept k)
theorem Inv.laid{a:Addr}{o:HO}{t':Nat}(I:Inv X pins σ H s)(k:∀b u,s.heap.get? b=some u→h'.get? b=some u)(hp:s.heap.objs.size≤a)(new:ObjOk X.prog X.w (upd H a o) h' a o):
  Inv X pins σ (upd H a o) { s with heap:=h',toks:=t' }:=I.un (Un.laid k hp (I.hok.fresh hp)) (I.hok.laid k hp new)
theorem Inv.write{x e:Addr}{o:HO}{t':Nat}(I:Inv X pins σ H s)(mu:Mut (H x))(he:e=x∨H e=some (.own x))(k:∀b u,b≠e→s.heap.get? b=some u→h'.get? b=some u)(heo:∃u,h'.get? e=some u)
  (new:ObjOk X.prog X.w (upd H x o) h' x o):Inv X pins σ (upd H x o) { s with heap:=h',toks:=t' }:=I.un (Un.write mu he k heo) (I.hok.write mu he k heo new)
theorem Inv.weak{σ':List (Option V)}(I:Inv X pins σ H s)(hl:σ'.length=σ.length)(w:∀(i:Nat) v,σ'[i]? = some (some v)→σ[i]? = some (some v)):Inv X pins σ' H s:=
 ⟨I.ok,I.os,I.bare,I.base,let ⟨m,hn,hl'⟩:=I.loc;⟨m,hn,fun i x v e1 e2 e3=>hl' i x v e1 (w i v e2) e3⟩,I.cell,I.free,I.freeC,I.pin,I.hok,hl.trans I.len⟩
theorem Inv.pins_of{pins':List (Addr×Obj)}(I:Inv X pins σ H s)(h:∀p∈pins',s.heap.get? p.1=some p.2∧H p.1=none∧p.1≠X.env.locals∧p.1∉X.fs∧∀v,p.2.data≠.cell v):Inv X pins' σ H s:=
 ⟨I.ok,I.os,I.bare,I.base,I.loc,I.cell,I.free,I.freeC,fun p hp=>(List.mem_append.mp hp).elim (fun z=>I.pin p (List.mem_append_left _ z)) (h p),I.hok,I.len⟩
theorem zz1{N:List Str}(hN:N.Nodup){i j:Nat}{x:Str}(a:N[i]? = some x)(b:N[j]? = some x):i=j:=by
 obtain⟨h1,e1⟩:=List.getElem?_eq_some_iff.mp a
 obtain⟨h2,e2⟩:=List.getElem?_eq_some_iff.mp b
 exact(List.getElem_inj hN).mp (e1.trans e2.symm)
theorem ya9{M:Model}{A:Around}{E:Value→Shared→Prop}{i:Nat}{x:Str}{v:V}{u:Value}{Q:Unit→Shared→Prop}(I:Inv X pins σ H s)(hN:X.N.Nodup)(hi:X.N[i]? = some x)(hx:Loc X.env.scope x)(r:RelV v u)
  (h:∀s',Inv X pins (σ.set i (some v)) H s'→(∃a,Heap.SameBut a s.heap s'.heap∧(a=X.env.locals∨X.env.cells.lookup x=some a))→Q () s') (hf:X.fn x=true∨X.env.scope.names.lookup x=some .local:=by first|exact .inl rfl|exact .inr rfl|assumption):wpAny M A (storeName X.env x u) Q E s:=by
 obtain⟨m,hn,hl⟩:=id I.loc
 have hcls:(X.env.scope.kind==.class||(X.env.scope.kind==.module&&X.env.locals != X.env.globals))=false:=by rw[I.ok.kind];rfl
 have hiσ:i<σ.length:=by rw[I.len];exact(List.getElem?_eq_some_iff.mp hi).1
 have cne:=I.cne
 have tracked:∀ {a:Addr} {h':Heap},(∃o,s.heap.get? a=some o∧H a=none)→Heap.SameBut a s.heap h'→HOk X.prog X.w H h':=fun {a h'} ha hs b ob e=>by
  obtain⟨_,_,hfree⟩:=ha
  refine(I.hok b ob e).stay (fun c w' hc q=>(hs.2 c ?_).trans q) (fun _ q=>q) fun _ _ q=>q
  rintro rfl
  rcases hc with rfl|hc
  ·rw[hfree] at e;cases e
  ·rw[hfree] at hc;cases hc
 rcases hx with hk|hk
 ·refine wpAny_storeName_local hk hn (fun h' hn' hs=>?_) hcls
  obtain⟨oL,_,_,hoL,_⟩:=id hn
  refine h _ ⟨I.ok,I.os,I.bare,⟨fun b o e n hb hx=>?_,fun b o e n hb hx=>?_,I.base.free,fun b o e hx=>?_,I.base.tups,I.base.frzs,I.base.tbls⟩,⟨_,hn',fun j y v' e1 e2 e3=>?_⟩,fun y c e=>?_,I.free,I.freeC,fun p hp=>?_,tracked ⟨oL,hoL,I.free⟩ hs,by simpa using I.len⟩ ⟨_,hs,.inl rfl⟩
  ·exact(hs.2 b (Nat.ne_of_lt (Nat.lt_of_lt_of_le (Heap.lt_size e) I.ok.above))).trans (I.base.keep b o e n hb hx)
  ·obtain⟨sl,e1⟩:=I.base.slot b o e n hb hx
   exact⟨sl,(hs.2 b (Nat.ne_of_lt (Nat.lt_of_lt_of_le (Heap.lt_size e) I.ok.above))).trans e1⟩
  ·obtain⟨o',e1⟩:=I.base.there b o e hx
   exact⟨o',(hs.2 b (Nat.ne_of_lt (Nat.lt_of_lt_of_le (Heap.lt_size e) I.ok.above))).trans e1⟩
  ·by_cases hj:j=i
   ·subst hj
    rw[hi] at e1;cases e1
    rw[List.getElem?_set_self hiσ] at e2
    cases e2
    exact⟨u,r,.inl ⟨hk,by simp⟩⟩
   ·rw[List.getElem?_set_ne (Ne.symm hj)] at e2
    obtain⟨u',r',q⟩:=hl j y v' e1 e2 e3
    refine⟨u',r',?_⟩
    rcases q with⟨k,e⟩|⟨k,c,e,z⟩
    ·refine .inl ⟨k,?_⟩
     have:y≠x:=fun e=>hj (zz1 hN e1 (e▸hi))
     simp[this,e]
    ·exact .inr ⟨k,c,e,z.sameBut hs (cne y c e)⟩
  ·obtain⟨w',z⟩:=I.cell y c e
   exact⟨w',z.sameBut hs (cne y c e)⟩
  ·obtain⟨e,n,ne,nf,d⟩:=I.pin p hp
   exact⟨(hs.2 p.1 ne).trans e,n,ne,nf,d⟩
 ·have hfn:X.fn x=true:=by
   rcases hf with z|z
   ·exact z
   ·rw[z] at hk;cases hk
  obtain⟨c,hc⟩:=I.ok.has x (.inl hk)
  obtain⟨w',z⟩:=I.cell x c hc
  refine wpAny_storeName_cell I.ok.kind hk hc z (fun h' hc' hs=>?_)
  obtain⟨oc,hoc,hocd⟩:=id z
  refine h { s with heap:=h' } ⟨I.ok,I.os,I.bare,⟨fun b o e n hb hx=>?_,fun b o e n hb hx=>?_,I.base.free,fun b o e hx=>?_,I.base.tups,I.base.frzs,I.base.tbls⟩,⟨m,hn.sameBut hs (Ne.symm (cne x c hc)),fun j y v' e1 e2 e3=>?_⟩,fun y c' e=>?_,I.free,I.freeC,fun p hp=>?_,tracked ⟨oc,hoc,I.freeC x c hc⟩ hs,by simpa using I.len⟩ ⟨c,hs,.inr hc⟩
  ·exact(hs.2 b (Nat.ne_of_lt (Nat.lt_of_lt_of_le (Heap.lt_size e) (I.ok.cab x c hfn hc)))).trans (I.base.keep b o e n hb hx)
  ·obtain⟨sl,e1⟩:=I.base.slot b o e n hb hx
   exact⟨sl,(hs.2 b (Nat.ne_of_lt (Nat.lt_of_lt_of_le (Heap.lt_size e) (I.ok.cab x c hfn hc)))).trans e1⟩
  ·obtain⟨o',e1⟩:=I.base.there b o e hx
   exact⟨o',(hs.2 b (Nat.ne_of_lt (Nat.lt_of_lt_of_le (Heap.lt_size e) (I.ok.cab x c hfn hc)))).trans e1⟩
  ·by_cases hj:j=i
   ·subst hj
    rw[hi] at e1;cases e1
    rw[List.getElem?_set_self hiσ] at e2
    cases e2
    exact⟨u,r,.inr ⟨.inl hk,c,hc,hc'⟩⟩
   ·rw[List.getElem?_set_ne (Ne.symm hj)] at e2
    obtain⟨u',r',q⟩:=hl j y v' e1 e2 e3
    refine⟨u',r',?_⟩
    rcases q with q|⟨k,c',e,z'⟩
    ·exact .inl q
    ·refine .inr ⟨k,c',e,z'.sameBut hs ?_⟩
     rintro rfl
     exact hj (zz1 hN e1 (I.ok.inj _ _ _ e hc▸hi))
  ·by_cases hcc:c'=c
   ·subst hcc;exact⟨_,hc'⟩
   ·obtain⟨w2,z2⟩:=I.cell y c' e
    exact⟨w2,z2.sameBut hs hcc⟩
  ·obtain⟨e,n,ne,nf,d⟩:=I.pin p hp
   refine⟨(hs.2 p.1 ?_).trans e,n,ne,nf,d⟩
   intro q
   rw[q,hoc] at e
   have q':oc=p.2:=Option.some.inj e
   exact d w' (by rw[←q'];exact hocd)
theorem zx1{M:Model}{A:Around}{E:Value→Shared→Prop}{i:Nat}{x:Str}{v:V}{u:Value}{Q:Unit→Shared→Prop}(I:Inv X pins σ H s)(hN:X.N.Nodup)(hi:X.N[i]? = some x)(hx:Loc X.env.scope x)(r:RelV v u)
  (h:∀s',Inv X pins (σ.set i (some v)) H s'→Q () s') (hf:X.fn x=true∨X.env.scope.names.lookup x=some .local:=by first|exact .inl rfl|exact .inr rfl|assumption):wpAny M A (storeName X.env x u) Q E s:=
 ya9 I hN hi hx r (fun s' I' _=>h s' I') hf
theorem Inv.call'{s':Shared}{ch:List Addr}(I:Inv X pins σ H s)(ho:s'.os=s.os)(u:Un (frs X.stack) ch H H' s.heap s'.heap)(hok:HOk X.prog X.w H' s'.heap)(hg:AllBare s'.gens)
  (hch:∀b∈ch,(b∈X.ex∨X.s₀.heap.objs.size≤b)∧b≠X.env.locals∧(∀x c,X.env.cells.lookup x=some c→c≠b)∧∀p∈X.pn++pins,p.1≠b):Inv X pins σ H' s':=by
 obtain⟨h',g',d',t',o'⟩:=s'
 have e:o'=s.os:=ho
 subst e
 exact I.call (g':=g') (t':=t') (d':=d') u hok hg hch
end
abbrev XK:=Value→Option Addr→Hp→Prop
abbrev St:=List (Option V)
abbrev VK:=V→Hp→Prop
abbrev TE:=St→Hp→VK→Prop
abbrev TT:=St→Hp→(Bool→Hp→Prop)→Prop
abbrev TA:=St→Hp→(List V→Hp→Prop)→Prop
structure Ends where
 nx:St→Hp→Prop
 rt:VK
 bk:St→Hp→Prop:=fun _ _=>False
 ct:St→Hp→Prop:=fun _ _=>False
abbrev TS:=Ends→St→Hp→Prop
def EP(X:Cx)(pins:List (Addr×Obj))(σ:St)(Q:VK)(u:Value)(s':Shared):Prop:=∃v H',Inv X pins σ H' s'∧RelV v u∧Q v H'
def TP(X:Cx)(pins:List (Addr×Obj))(σ:St)(Q:Bool→Hp→Prop)(b:Bool)(s':Shared):Prop:=∃H',Inv X pins σ H' s'∧Q b H'
def AP(X:Cx)(pins:List (Addr×Obj))(σ:St)(Q:List V→Hp→Prop)(us:List Value)(s':Shared):Prop:=∃vs H',Inv X pins σ H' s'∧Vals vs us∧Q vs H'
def SP(X:Cx)(pins:List (Addr×Obj))(D:Ends)(f:Flow)(s':Shared):Prop:=
 match f with
 |.next=>∃σ' H',Inv X pins σ' H' s'∧D.nx σ' H'
 |.brk=>∃σ' H',Inv X pins σ' H' s'∧D.bk σ' H'
 |.cont=>∃σ' H',Inv X pins σ' H' s'∧D.ct σ' H'
 |.ret u=>∃v σ' H',Inv X pins σ' H' s'∧RelV v u∧D.rt v H'
def PE(X:Cx)(e:Expr)(t:TE):Prop:=
 ∀(pins:List (Addr×Obj)) (s:Shared) (σ:St) (H:Hp) (Q:VK),Inv X pins σ H s→t σ H Q→wpAny (model X.prog X.w) X.A (eval e X.env) (EP X pins σ Q) X.xe s
def PT(X:Cx)(e:Expr)(t:TT):Prop:=
 ∀(pins:List (Addr×Obj)) (s:Shared) (σ:St) (H:Hp) (Q:Bool→Hp→Prop),Inv X pins σ H s→t σ H Q→wpAny (model X.prog X.w) X.A (isTrue e X.env (eval e X.env)) (TP X pins σ Q) X.xe s
def PW(X:Cx)(e:Expr)(t:TT):Prop:=
 ∀(whole:Sem Value) (pins:List (Addr×Obj)) (s:Shared) (σ:St) (H:Hp) (Q:Bool→Hp→Prop),Inv X pins σ H s→t σ H Q→wpAny (model X.prog X.w) X.A (isTrue e X.env whole) (TP X pins σ Q) X.xe s
theorem PW.pt{X:Cx}{e:Expr}{t:TT}(h:PW X e t):PT X e t:=h _
def PA(X:Cx)(es:List Expr)(t:TA):Prop:=
 ∀(pos:Pos) (pins:List (Addr×Obj)) (s:Shared) (σ:St) (H:Hp) (Q:List V→Hp→Prop),Inv X pins σ H s→t σ H Q→wpAny (model X.prog X.w) X.A (spliced (backTo pos (starEach es X.env))) (AP X pins σ Q) X.xe s
def PS(X:Cx)(st:Stmt)(t:TS):Prop:=
 ∀(pins:List (Addr×Obj)) (s:Shared) (σ:St) (H:Hp) (D:Ends),Inv X pins σ H s→t D σ H→wpAny (model X.prog X.w) X.A (exec st X.env) (SP X pins D) X.xe s
def PSs(X:Cx)(st:List Stmt)(t:TS):Prop:=
 ∀(pins:List (Addr×Obj)) (s:Shared) (σ:St) (H:Hp) (D:Ends),Inv X pins σ H s→t D σ H→wpAny (model X.prog X.w) X.A (execs st X.env) (SP X pins D) X.xe s
theorem thn{α:Type}{t:Sem α}{Q Q':α→Shared→Prop}{M:Model}{A:Around}{E:Value→Shared→Prop}{s:Shared}(h:wpAny M A t Q E s)(hQ:∀a s,Q a s→Q' a s):wpAny M A t Q' E s:=wpAny_mono h hQ fun _ _ x=>x
section
variable {X:Cx}
theorem bin{a b:Expr}{ta tb:TE}(ha:PE X a ta)(hb:PE X b tb){pins:List (Addr×Obj)}{s:Shared}{σ:St}{H:Hp}{R:V→V→Hp→Prop}(I:Inv X pins σ H s)(h:ta σ H fun x H1=>tb σ H1 fun y H2=>R x y H2)
  {α:Type} {Q:α→Shared→Prop} {f:Value→Value→Sem α}
  (hf:∀v u s2 x y H2,Inv X pins σ H2 s2→RelV x v→RelV y u→R x y H2→wpAny (model X.prog X.w) X.A (f v u) Q X.xe s2):
  wpAny (model X.prog X.w) X.A (eval a X.env) (fun v s₁=>wpAny (model X.prog X.w) X.A (eval b X.env) (fun u s₂=>wpAny (model X.prog X.w) X.A (f v u) Q X.xe s₂) X.xe s₁) X.xe s:=by
 refine thn (ha pins s σ H _ I h) fun v s1 ⟨x,H1,I1,r1,q1⟩=>?_
 refine thn (hb pins s1 σ H1 _ I1 q1) fun u s2 ⟨y,H2,I2,r2,q2⟩=>?_
 exact hf v u s2 x y H2 I2 r1 r2 q2
def zp1(i:Nat):TE:=fun σ H Q=>∃v,σ[i]? = some (some v)∧Q v H
def tC(v:V):TE:=fun _ H Q=>Q v H
theorem pe_var{i:Nat}{x:Str}{pos:Pos}(hN:X.N[i]? = some x)(hv:Vis X.env.scope x)(hd:(x==("__debug__":Str))=false:=by decide)(hcd:(x==("__classdict__":Str))=false:=by decide):PE X (.Name x pos) (zp1 i):=by
 intro pins s σ H Q I h
 obtain⟨v,e,h⟩:=h
 obtain⟨m,hn,hl⟩:=I.loc
 obtain⟨u,r,l⟩:=hl i x v hN e hv
 have fin:EP X pins σ Q u s:=⟨v,H,I,r,h⟩
 rcases l with⟨hk,hm⟩|⟨hk,c,hc,hcell⟩
 ·exact wpAny_Name (wpAny_loadName_local I.ok.kind hk hn hm fin) hd
 ·rcases hk with hk|hk
  ·exact wpAny_Name (wpAny_loadName_cell I.ok.kind hk hc hcell fin) hd
  ·exact wpAny_Name (wpAny_loadName_free I.ok.kind hk hc hcell fin hcd) hd
theorem pe_int{i j pos}:PE X (.Constant (.int i) j pos) (tC (.int i)):=fun _ _ _ H _ I h=>wpAny_Constant_int ⟨.int i,H,I.tok _,⟨_,rfl⟩,h⟩
theorem pe_bl{b j pos}:PE X (.Constant (.bool b) j pos) (tC (.bl b)):=fun _ _ _ H _ I h=>Constant_bool ⟨.bl b,H,I,rfl,h⟩
theorem pe_non{j pos}:PE X (.Constant .none j pos) (tC .non):=fun _ _ _ H _ I h=>Constant_none ⟨.non,H,I,rfl,h⟩
theorem pe_str{x j pos}:PE X (.Constant (.str x) j pos) (tC (.str x)):=fun _ _ _ H _ I h=>Calls.Constant_str ⟨.str x,H,I.tok _,⟨_,rfl⟩,h⟩
def Gl(X:Cx)(x:Str):Prop:=X.env.kindOf x=some .globalImplicit
theorem zn6{E:Value→Shared→Prop}{pins:List (Addr×Obj)}{s:Shared}{σ:St}{H:Hp}{x:Str}{u:Value}{pos:Pos}{Q:Value→Shared→Prop}(I:Inv X pins σ H s)(hg:Gl X x)(hm:X.mg x=some u)(h:Q u s)
  (hd:(x==("__debug__":Str))=false:=by decide):wpAny (model X.prog X.w) X.A (eval (.Name x pos) X.env) Q E s:=
 Calls.Name_function_global I.ok.kind hg (Calls.loadGlobal_global (by rw[I.ok.glob];exact I.mod.glob.keeps I.bk) hm h) hd
theorem yj9{E:Value→Shared→Prop}{pins:List (Addr×Obj)}{s:Shared}{σ:St}{H:Hp}{x:Str}{u:Value}{pos:Pos}{Q:Value→Shared→Prop}(I:Inv X pins σ H s)(hg:Gl X x)(hm:X.mg x=none)(hv:bootBuiltins x=some u)(h:Q u s)
  (hn:x≠"__name__":=by decide) (hd:(x==("__debug__":Str))=false:=by decide):wpAny (model X.prog X.w) X.A (eval (.Name x pos) X.env) Q E s:=by
 obtain⟨mb,h1,h2⟩:=I.mod.blt
 exact Calls.Name_function_global I.ok.kind hg (Calls.loadGlobal_builtin (by rw[I.ok.glob];exact I.mod.glob.keeps I.bk) hm (by rw[I.ok.blt];exact h1.keeps I.bk) ((h2 x hn).trans hv) h) hd
theorem pe_glob{x:Str}{v:V}{u:Value}{pos:Pos}(hg:Gl X x)(hm:X.mg x=some u)(r:RelV v u)(hd:(x==("__debug__":Str))=false:=by decide):PE X (.Name x pos) (tC v):=
 fun _ _ _ H _ I h=>zn6 I hg hm ⟨v,H,I,r,h⟩ hd
theorem pe_bltn{x:Str}{v:V}{u:Value}{pos:Pos}(hg:Gl X x)(hm:X.mg x=none)(hv:bootBuiltins x=some u)(r:RelV v u)(hn:x≠"__name__":=by decide)(hd:(x==("__debug__":Str))=false:=by decide):PE X (.Name x pos) (tC v):=
 fun _ _ _ H _ I h=>yj9 I hg hm hv ⟨v,H,I,r,h⟩ hn hd
variable {a b:Expr}{ta tb:TE}{pos:Pos}
def tB(t:TE):TT:=fun σ H Q=>t σ H fun x H1=>∃c,x=.bl c∧Q c H1
theorem pt_val{e:Expr}{t:TE}(h:PE X e t)(he:∀whole,isTrue e X.env whole=(do let v ←whole;standAt e.pos;holding [v] (truthy v)):=by intro _;rfl):PT X e (tB t):=by
 intro pins s σ H Q I hw
 refine isTrue_plain (thn (h pins s σ H _ I hw) fun v s1 ⟨x,H1,I1,r1,q1⟩=>?_) (he _)
 obtain⟨d,rfl,q⟩:=q1
 cases r1
 exact wpAny_truthy_bool ⟨H1,I1,q⟩
variable {tA tB':TT}{rest:List Expr}
def tAnd(t u:TT):TT:=fun σ H Q=>t σ H fun c H1=>if c=true then u σ H1 Q else Q false H1
def tOr(t u:TT):TT:=fun σ H Q=>t σ H fun c H1=>if c=true then Q true H1 else u σ H1 Q
def tNot(t:TT):TT:=fun σ H Q=>t σ H fun c H1=>Q (!c) H1
theorem pw_and1(ha:PT X a tA):PW X (.BoolOp .And [a] pos) tA:=by
 intro wh pins s σ H Q I h
 refine isTrue_and (thn (ha pins s σ H Q I h) fun c s1 e=>?_)
 cases c with
 |true=>exact isTrue_and_nil e
 |false=>exact e
theorem pw_or1(ha:PT X a tA):PW X (.BoolOp .Or [a] pos) tA:=by
 intro wh pins s σ H Q I h
 refine isTrue_or (thn (ha pins s σ H Q I h) fun c s1 e=>?_)
 cases c with
 |false=>exact isTrue_or_nil e
 |true=>exact e
theorem pw_and(ha:PT X a tA)(hb:PW X (.BoolOp .And (b::rest) pos) tB'):PW X (.BoolOp .And (a::b::rest) pos) (tAnd tA tB'):=by
 intro wh pins s σ H Q I h
 refine isTrue_and (thn (ha pins s σ H _ I h) fun c s1 ⟨H1,I1,q1⟩=>?_)
 cases c with
 |true=>exact hb wh pins s1 σ H1 Q I1 q1
 |false=>exact⟨H1,I1,q1⟩
theorem pw_or(ha:PT X a tA)(hb:PW X (.BoolOp .Or (b::rest) pos) tB'):PW X (.BoolOp .Or (a::b::rest) pos) (tOr tA tB'):=by
 intro wh pins s σ H Q I h
 refine isTrue_or (thn (ha pins s σ H _ I h) fun c s1 ⟨H1,I1,q1⟩=>?_)
 cases c with
 |true=>exact⟨H1,I1,q1⟩
 |false=>exact hb wh pins s1 σ H1 Q I1 q1
theorem pt_not(ha:PT X a tA):PT X (.UnaryOp .Not a pos) (tNot tA):=by
 intro pins s σ H Q I h
 exact isTrue_not (ha pins s σ H (fun c H1=>Q (!c) H1) I h)
def ya8(ta tb:TE):TE:=fun σ H Q=>ta σ H fun x H1=>∃c,x=.bl c∧if c=true then tb σ H1 Q else Q (.bl false) H1
def tOrV(ta tb:TE):TE:=fun σ H Q=>ta σ H fun x H1=>∃c,x=.bl c∧if c=true then Q (.bl true) H1 else tb σ H1 Q
def tNotV(ta:TE):TE:=fun σ H Q=>ta σ H fun x H1=>∃c,x=.bl c∧Q (.bl (!c)) H1
theorem pe_one{op}{t:TE}(h:PE X a t):PE X (.BoolOp op [a] pos) t:=fun pins s σ H Q I hw=>BoolOp_one (h pins s σ H Q I hw)
theorem pe_and(ha:PE X a ta)(hb:PE X (.BoolOp .And (b::rest) pos) tb):PE X (.BoolOp .And (a::b::rest) pos) (ya8 ta tb):=by
 intro pins s σ H Q I h
 refine BoolOp_and (thn (ha pins s σ H _ I h) fun v s1 ⟨x,H1,I1,r1,q1⟩=>?_)
 obtain⟨c,rfl,q1⟩:=q1
 cases r1
 refine wpAny_truthy_bool ?_
 cases c with
 |true=>exact hb pins s1 σ H1 Q I1 q1
 |false=>exact⟨.bl false,H1,I1,rfl,q1⟩
theorem pe_or(ha:PE X a ta)(hb:PE X (.BoolOp .Or (b::rest) pos) tb):PE X (.BoolOp .Or (a::b::rest) pos) (tOrV ta tb):=by
 intro pins s σ H Q I h
 refine BoolOp_or (thn (ha pins s σ H _ I h) fun v s1 ⟨x,H1,I1,r1,q1⟩=>?_)
 obtain⟨c,rfl,q1⟩:=q1
 cases r1
 refine wpAny_truthy_bool ?_
 cases c with
 |false=>exact hb pins s1 σ H1 Q I1 q1
 |true=>exact⟨.bl true,H1,I1,rfl,q1⟩
theorem pe_not(ha:PE X a ta):PE X (.UnaryOp .Not a pos) (tNotV ta):=by
 intro pins s σ H Q I h
 refine UnaryOp_ (thn (ha pins s σ H _ I h) fun v s1 ⟨x,H1,I1,r1,q1⟩=>?_)
 obtain⟨c,rfl,q1⟩:=q1
 cases r1
 exact not_of (wpAny_truthy_bool ⟨.bl (!c),H1,I1,rfl,q1⟩)
def tIf(t:TT)(ta tb:TE):TE:=fun σ H Q=>t σ H fun c H1=>if c=true then ta σ H1 Q else tb σ H1 Q
theorem yj3{c:Expr}(hc:PT X c tA)(ha:PE X a ta)(hb:PE X b tb):PE X (.IfExp c a b pos) (tIf tA ta tb):=by
 intro pins s σ H Q I h
 refine wpAny_IfExp (thn (hc pins s σ H _ I h) fun d s1 ⟨H1,I1,q1⟩=>?_)
 cases d with
 |true=>exact ha pins s1 σ H1 Q I1 q1
 |false=>exact hb pins s1 σ H1 Q I1 q1
end
def SqL(K:PySem.W.Frag)(H:Hp)(a:Addr)(xs:List V):Prop:=
 Rd H a (.lst xs)∨
  ∃(o:Obj) (its:Array Value) (n:Nat),K.lookup a=some o∧o.cls=.type "list"∧o.dict=none∧o.data=.seq its n∧its.size≤sizeLine∧Vals xs its.toList
def SqT(K:PySem.W.Frag)(H:Hp)(a:Addr)(xs:List V):Prop:=
 Rd H a (.tup xs)∨
  ∃(o:Obj) (its:Array Value) (n:Nat),K.lookup a=some o∧o.cls=.type "tuple"∧o.data=.seq its n∧its.size≤sizeLine∧Vals xs its.toList
def absV:Value→Option V
 |.none=>some .non
 |.bool b=>some (.bl b)
 |.int i _=>some (.int i)
 |.str x _=>some (.str x)
 |.bytes b _=>some (.byt b)
 |.float b _=>some (.flt b)
 |.ref a=>some (.ref a)
 |.type n=>some (.ty n)
 |_=>none
theorem RelV.abs{x:V}{u:Value}(r:RelV x u):absV u=some x:=by
 cases x with
 |non=>cases r;rfl
 |bl _=>cases r;rfl
 |int _=>obtain⟨t,rfl⟩:=r;rfl
 |str _=>obtain⟨t,rfl⟩:=r;rfl
 |byt _=>obtain⟨t,rfl⟩:=r;rfl
 |flt _=>obtain⟨t,rfl⟩:=r;rfl
 |ref _=>cases r;rfl
 |ty _=>cases r;rfl
theorem RelV.inj{x y:V}{u:Value}(r:RelV x u)(q:RelV y u):x=y:=Option.some.inj (r.abs.symm.trans q.abs)
theorem Vals.inj:∀ {xs ys:List V} {us:List Value},Vals xs us→Vals ys us→xs=ys
 |_,_,_,.nil,.nil=>rfl
 |_,_,_,.cons r t,.cons r' t'=>by rw[r.inj r',Vals.inj t t']
section
variable {X:Cx}{pins:List (Addr×Obj)}{σ:St}{H:Hp}{s:Shared}{a:Addr}{xs ys:List V}
theorem SqL.of{K:PySem.W.Frag}(h:H a=some (.lst xs)):SqL K H a xs:=.inl (.inl h)
theorem SqT.of{K:PySem.W.Frag}(h:H a=some (.tup xs)):SqT K H a xs:=.inl (.inl h)
theorem Inv.list(I:Inv X pins σ H s)(h:SqL X.K H a xs):∃its:List Value,Vals xs its∧PlainL s.heap a its.toArray∧xs.length≤sizeLine:=by
 rcases h with h|⟨o,its,n,hk,hc,hd,hs,hz,r⟩
 ·obtain⟨z,its,n,r,e⟩:=h.ok I.hok
  exact⟨its,r,⟨_,n,e,rfl,rfl,rfl⟩,z⟩
 ·refine⟨its.toList,r,⟨o,n,I.kIn a o hk,hc,hd,by simpa using hs⟩,?_⟩
  have e:=r.length
  simp only[Array.length_toList] at e
  omega
theorem Inv.tuple(I:Inv X pins σ H s)(h:SqT X.K H a xs):∃its:List Value,Vals xs its∧IsTup s.heap a its.toArray∧xs.length≤sizeLine:=by
 rcases h with h|⟨o,its,n,hk,hc,hs,hz,r⟩
 ·obtain⟨z,its,r,p⟩:=h.ok I.hok
  exact⟨its,r,p,z⟩
 ·refine⟨its.toList,r,⟨o,I.kIn a o hk,hc,n,by simpa using hs⟩,?_⟩
  have e:=r.length
  simp only[Array.length_toList] at e
  omega
theorem Inv.list_inj(I:Inv X pins σ H s)(h:SqL X.K H a xs)(h':SqL X.K H a ys):xs=ys:=by
 obtain⟨its,r,⟨o,n,e,_,_,d⟩,_⟩:=I.list h
 obtain⟨its',r',⟨o',n',e',_,_,d'⟩,_⟩:=I.list h'
 rw[e] at e';cases e'
 rw[d] at d'
 injection d' with d1 _
 have:its=its':=by simpa using congrArg Array.toList d1
 subst this
 exact r.inj r'
end
abbrev Cx.wish(X:Cx)(E:Value→Shared→Prop):Cx:={ X with xe:=E }
abbrev Cx.nox(X:Cx):Cx:=X.wish fun _ _=>False
theorem Cx.Ok.wish{X:Cx}(ok:X.Ok)(E:Value→Shared→Prop):(X.wish E).Ok:=
 ⟨ok.mod,ok.kind,ok.glob,ok.blt,ok.above,ok.inj,ok.has,ok.cab,ok.hd,ok.frames,ok.stk,ok.exf,ok.bs,ok.bsz,ok.noex,ok.exfs,ok.funs,ok.frf⟩
theorem Cx.Ok.unwish{X:Cx}{E:Value→Shared→Prop}(ok:(X.wish E).Ok):X.Ok:=
 ⟨ok.mod,ok.kind,ok.glob,ok.blt,ok.above,ok.inj,ok.has,ok.cab,ok.hd,ok.frames,ok.stk,ok.exf,ok.bs,ok.bsz,ok.noex,ok.exfs,ok.funs,ok.frf⟩
section
variable {X:Cx}{pins:List (Addr×Obj)}{σ:St}{H:Hp}{s:Shared}{E:Value→Shared→Prop}
theorem Inv.wish(I:Inv X pins σ H s)(E:Value→Shared→Prop):Inv (X.wish E) pins σ H s:=⟨I.ok.wish E,I.os,I.bare,I.base,I.loc,I.cell,I.free,I.freeC,I.pin,I.hok,I.len⟩
theorem Inv.unwish(I:Inv (X.wish E) pins σ H s):Inv X pins σ H s:=⟨I.ok.unwish,I.os,I.bare,I.base,I.loc,I.cell,I.free,I.freeC,I.pin,I.hok,I.len⟩
theorem SP.unwish{D:Ends}{f:Flow}{s':Shared}(h:SP (X.wish E) pins D f s'):SP X pins D f s':=by
 cases f with
 |next=>obtain⟨σ',H',I,q⟩:=h;exact⟨σ',H',I.unwish,q⟩
 |brk=>obtain⟨σ',H',I,q⟩:=h;exact⟨σ',H',I.unwish,q⟩
 |cont=>obtain⟨σ',H',I,q⟩:=h;exact⟨σ',H',I.unwish,q⟩
 |ret u=>obtain⟨v,σ',H',I,r,q⟩:=h;exact⟨v,σ',H',I.unwish,r,q⟩
theorem PE.nox{e:Expr}{t:TE}(h:PE X.nox e t):PE X e t:=fun pins s σ H Q I hw=>
 wpAny_mono (h pins s σ H Q (I.wish _) hw) (fun _ _ ⟨v,H',I',r,q⟩=>⟨v,H',I'.unwish,r,q⟩) fun _ _ z=>False.elim z
theorem PT.nox{e:Expr}{t:TT}(h:PT X.nox e t):PT X e t:=fun pins s σ H Q I hw=>
 wpAny_mono (h pins s σ H Q (I.wish _) hw) (fun _ _ ⟨H',I',q⟩=>⟨H',I'.unwish,q⟩) fun _ _ z=>False.elim z
theorem PSs.nox{st:List Stmt}{t:TS}(h:PSs X.nox st t):PSs X st t:=fun pins s σ H D I hw=>
 wpAny_mono (h pins s σ H D (I.wish _) hw) (fun _ _ q=>q.unwish) fun _ _ z=>False.elim z
end
section
variable {X:Cx}{st:Stmt}{rest:List Stmt}{t u:TS}{e:Expr}{te:TE}{pos:Pos}
def tNext:TS:=fun D σ H=>D.nx σ H
def tSeq(t u:TS):TS:=fun D σ H=>t { D with nx:=u D } σ H
theorem pss_nil:PSs X [] tNext:=fun _ _ σ H _ I h=>wpAny_execs_nil ⟨σ,H,I,h⟩
theorem yi6(h1:PS X st t)(h2:PSs X rest u):PSs X (st::rest) (tSeq t u):=by
 intro pins s σ H D I h
 refine wpAny_execs_cons (thn (h1 pins s σ H { D with nx:=u D } I h) fun f s1 q=>?_)
 cases f with
 |next=>
  obtain⟨σ',H',I',q⟩:=q
  exact h2 pins s1 σ' H' D I' q
 |ret v=>exact q
 |brk=>exact q
 |cont=>exact q
theorem pss_one(h1:PS X st t):PSs X [st] t:=by
 intro pins s σ H D I h
 refine wpAny_execs_cons (thn (h1 pins s σ H D I h) fun f s1 q=>?_)
 cases f with
 |next=>exact wpAny_execs_nil q
 |ret v=>exact q
 |brk=>exact q
 |cont=>exact q
theorem Inv.quiet{pins:List (Addr×Obj)}{σ:St}{H:Hp}{s:Shared}(I:Inv X pins σ H s):interactive X.env=false:=by simp[interactive,I.ok.kind]
def tDrop(te:TE):TS:=fun D σ H=>te σ H fun _ H1=>D.nx σ H1
theorem ps_expr(he:PE X e te)(hs:swapsWith e none pos.line X.env=pure false:=by rfl):PS X (.Expr e pos) (tDrop te):=by
 intro pins s σ H D I h
 exact wpAny_Expr_any (thn (he pins s σ H _ I h) fun v s1 ⟨x,H1,I1,r1,q1⟩=>⟨σ,H1,I1,q1⟩) I.quiet hs
def tRet(te:TE):TS:=fun D σ H=>te σ H D.rt
theorem ps_ret(he:PE X e te):PS X (.Return (some e) pos) (tRet te):=by
 intro pins s σ H D I h
 exact wpAny_Return_some (thn (he pins s σ H _ I h) fun v s1 ⟨x,H1,I1,r1,q1⟩=>⟨x,σ,H1,I1,r1,q1⟩)
def tIfS(c:TT)(t u:TS):TS:=fun D σ H=>c σ H fun b H1=>if b=true then t D σ H1 else u D σ H1
theorem ps_if{c:Expr}{a b:List Stmt}{tc:TT}(hc:PT X c tc)(ha:PSs X a t)(hb:PSs X b u):PS X (.If c a b pos) (tIfS tc t u):=by
 intro pins s σ H D I h
 refine wpAny_If (thn (hc pins s σ H _ I h) fun d s1 ⟨H1,I1,q1⟩=>?_)
 cases d with
 |true=>exact ha pins s1 σ H1 D I1 q1
 |false=>exact hb pins s1 σ H1 D I1 q1
end
abbrev TG:=V→St→Hp→(St→Hp→Prop)→Prop
def PG(X:Cx)(target:Expr)(t:TG):Prop:=
 ∀(pins:List (Addr×Obj)) (s:Shared) (σ:St) (H:Hp) (v:V) (u:Value) (Q:St→Hp→Prop),Inv X pins σ H s→RelV v u→t v σ H Q→
  wpAny (model X.prog X.w) X.A (assign target X.env u) (fun _ s'=>∃σ' H',Inv X pins σ' H' s'∧Q σ' H') X.xe s
section
variable {X:Cx}{pos:Pos}
def yn1(i:Nat):TG:=fun v σ H Q=>Q (σ.set i (some v)) H
theorem zy7{i:Nat}{x:Str}(hN:X.N.Nodup)(hi:X.N[i]? = some x)(hx:Loc X.env.scope x)(hf:X.fn x=true∨X.env.scope.names.lookup x=some .local:=by first|exact .inl rfl|exact .inr rfl|assumption):PG X (.Name x pos) (yn1 i):=by
 intro pins s σ H v u Q I r h
 exact wpAny_assign_Name (zx1 I hN hi hx r (fun s' I'=>⟨_,H,I',h⟩) hf)
def tAsg(te:TE)(g:TG):TS:=fun D σ H=>te σ H fun x H1=>g x σ H1 D.nx
theorem ps_set{i:Nat}{x:Str}{e:Expr}{te:TE}{pos':Pos}(hN:X.N.Nodup)(hi:X.N[i]? = some x)(hx:Loc X.env.scope x)(he:PE X e te)(hs:swapsWith e (some (.Name x pos')) pos.line X.env=pure false:=by rfl)(hf:X.fn x=true∨X.env.scope.names.lookup x=some .local:=by first|exact .inl rfl|exact .inr rfl|assumption):
  PS X (.Assign [.Name x pos'] e pos) (tAsg te (yn1 i)):=by
 intro pins s σ H D I h
 refine wpAny_Assign_Name (thn (he pins s σ H _ I h) fun v s1 ⟨y,H1,I1,r1,q1⟩=>?_) hs
 exact zx1 I1 hN hi hx r1 (fun s2 I2=>⟨_,H1,I2,q1⟩) hf
end
section
variable {X:Cx}{pos:Pos}
def tWhile(c:TT)(tb:TS):TS:=fun D σ H=>∃W:Nat→St→Hp→Prop,(∃m,W m σ H)∧∀m σ H,W m σ H→
 c σ H fun b H1=>if b=true then ∃N:St→Hp→Prop,(∀σ' H',N σ' H'→∃m',m'<m∧W m' σ' H')∧tb { D with nx:=N,ct:=N,bk:=D.nx } σ H1 else D.nx σ H1
theorem yi7{c:Expr}{body:List Stmt}{tc:TT}{tb:TS}(hp:PassesOwn (model X.prog X.w) X.A X.env X.xe)(hc:PT X c tc)(hb:PSs X body tb):PS X (.While c body [] pos) (tWhile tc tb):=by
 intro pins s σ H D I h
 obtain⟨W,⟨m0,w0⟩,turn⟩:=h
 refine wpAny_While (codeAny_whileLoop (fun n s'=>∃σ' H',Inv X pins σ' H' s'∧W n σ' H') ?_ m0 ⟨σ,H,I,w0⟩)
 rintro n s1 ⟨σ1,H1,I1,w1⟩
 refine wpAny_passesOwn hp (thn (hc pins s1 σ1 H1 _ I1 (turn n σ1 H1 w1)) fun b s2 ⟨H2,I2,q2⟩=>?_)
 cases b with
 |true=>
  obtain⟨N,hN,q2⟩:=q2
  rw[if_pos rfl]
  refine wpAny_passesOwn hp (thn (hb pins s2 σ1 H2 _ I2 q2) fun f s3 q3=>?_)
  cases f with
  |next=>
   obtain⟨σ3,H3,I3,n3⟩:=q3
   obtain⟨m',hm,w3⟩:=hN σ3 H3 n3
   exact⟨m',hm,σ3,H3,I3,w3⟩
  |cont=>
   obtain⟨σ3,H3,I3,n3⟩:=q3
   obtain⟨m',hm,w3⟩:=hN σ3 H3 n3
   exact⟨m',hm,σ3,H3,I3,w3⟩
  |brk=>exact q3
  |ret v=>exact q3
 |false=>
  rw[if_neg Bool.false_ne_true]
  exact wpAny_execs_nil ⟨σ1,H2,I2,q2⟩
end
structure It where
 go:Nat→Hp→Prop
 yld:Nat→Hp→V→Hp→Prop
 stop:Nat→Hp→Prop
def FpOk(X:Cx)(pins:List (Addr×Obj))(H:Hp)(b:Addr):Prop:=
 H b=none∧b≠X.env.locals∧b∉X.fs∧(b∈X.ex∨X.s₀.heap.objs.size≤b)∧(∀x c,X.env.cells.lookup x=some c→c≠b)∧∀p∈X.pn++pins,p.1≠b
theorem Inv.fpOk{X:Cx}{pins:List (Addr×Obj)}{σ:St}{H H':Hp}{s:Shared}{b:Addr}(I:Inv X pins σ H s)(hb:s.heap.objs.size≤b)(hn:H' b=none):FpOk X pins H' b:=by
 refine⟨hn,Nat.ne_of_gt (Nat.lt_of_lt_of_le I.lt hb),I.nofs hb,.inr (Nat.le_trans I.sz hb),fun x c e z=>?_,fun p hp z=>?_⟩
 ·obtain⟨v,q⟩:=I.cell x c e
  exact absurd (Nat.lt_of_lt_of_le q.lt (by rw[z];exact hb)) (Nat.lt_irrefl _)
 ·exact absurd (Nat.lt_of_lt_of_le (Heap.lt_size (I.pin p hp).1) (by rw[z];exact hb)) (Nat.lt_irrefl _)
structure Turn (P : Program) (w : World) (K : PySem.W.Frag) (tg : Expr) (J : It) (fp : List Addr) (it : Addr) (tn : Nat → Heap → Prop) : Prop where
  mem : it ∈ fp
  obj : ∀ i h, tn i h → ∀ b ∈ fp, ∃ o, h.get? b = some o ∧ ∀ v, o.data ≠ .cell v
  keep : ∀ i h h', tn i h → (∀ b ∈ fp, ∀ o, h.get? b = some o → h'.get? b = some o) → tn i h'
  item : ∀ (X : Cx), X.prog = P → X.w = w → X.K = K → X.calm = true → ∀ (i : Nat) (pins : List (Addr × Obj)) (s : Shared) (σ : St) (H : Hp) (E : Value → Shared → Prop), Inv X pins σ H s → (∀ b ∈ fp, FpOk X pins H b) → tn i s.heap → J.go i H →
    wpAny (model P w) X.A (pyNext (.ref it)) (fun r s1 => ∃ u, r = some u ∧
      wpAny (model P w) X.A (letOwnedTupleGo tg (.ref it) u) (fun _ s2 => ∃ x H', Inv X pins σ H' s2 ∧ RelV x u ∧ J.yld i H x H' ∧ tn (i + 1) s2.heap ∧ ∀ b ∈ fp, H' b = none) E s1) E s
  done : ∀ (X : Cx), X.prog = P → X.w = w → X.K = K → X.calm = true → ∀ (i : Nat) (pins : List (Addr × Obj)) (s : Shared) (σ : St) (H : Hp) (E : Value → Shared → Prop), Inv X pins σ H s → (∀ b ∈ fp, FpOk X pins H b) → tn i s.heap → J.stop i H →
    wpAny (model P w) X.A (pyNext (.ref it)) (fun r s1 => r = none ∧ Inv X pins σ H s1) E s
  self : ∀ (A : Around) (i : Nat) (s : Shared) (Q : Value → Shared → Prop) (E : Value → Shared → Prop), tn i s.heap → Q (.ref it) s → wpAny (model P w) A (pyIter (.ref it)) Q E s
abbrev TI:=St→Hp→(It→Hp→Prop)→Prop
def PIE(X:Cx)(pins:List (Addr×Obj))(σ:St)(tg:Expr)(R:It→Hp→Prop)(itv:Value)(s2:Shared):Prop:=
 ∃(it:Addr) (fp:List Addr) (tn:Nat→Heap→Prop) (J:It) (H':Hp),itv=.ref it∧Inv X pins σ H' s2∧Turn X.prog X.w X.K tg J fp it tn∧tn 0 s2.heap∧(∀b∈fp,FpOk X pins H' b)∧R J H'
def PI(X:Cx)(tg iter:Expr)(wi:TI):Prop:=
 ∀(pins:List (Addr×Obj)) (s:Shared) (σ:St) (H:Hp) (R:It→Hp→Prop),Inv X pins σ H s→wi σ H R→
  wpAny (model X.prog X.w) X.A (eval iter X.env) (fun v s1=>wpAny (model X.prog X.w) X.A (pyIter v) (PIE X pins σ tg R) X.xe s1) X.xe s
theorem go_of {M : Model} {A : Around} {E : Value → Shared → Prop} {s : Shared} {tg : Expr} {it : Addr} {u : Value} {o : Obj} {n : String} {vs : Array Value} {Q : Unit → Shared → Prop} (ho : s.heap.get? it = some o) (hc : o.cls = .type n) (hd : o.data = .fields vs)
    (hn : ["enumerate", "zip", "dict_itemiterator", "dict_reverseitemiterator", "odict_iterator", "itertools.zip_longest", "itertools.pairwise"].contains n = false) (hQ : Q () s) : wpAny M A (letOwnedTupleGo tg (.ref it) u) Q E s := by
  unfold letOwnedTupleGo
  cases tg <;> first
    | exact wpAny_pure hQ
    | (cases u <;> first
        | exact wpAny_pure hQ
        | (refine wpAny_bind (wpAny_load ho ?_)
           rw [hc, hd]
           show wpAny M A (if (["enumerate", "zip", "dict_itemiterator", "dict_reverseitemiterator", "odict_iterator", "itertools.zip_longest", "itertools.pairwise"].contains n && vs[0]? == some (rawInt _)) = true then _ else _) Q E s
           rw [if_neg (by intro h; rw [hn, Bool.false_and] at h; cases h)]
           exact wpAny_pure hQ))
def Itl(K:PySem.W.Frag)(a:Addr):It:=
 ⟨fun i H=>∃xs x,SqL K H a xs∧xs[i]? = some x,fun i H x H'=>H'=H∧∀xs,SqL K H a xs→xs[i]? = some x,fun i H=>∃xs,SqL K H a xs∧xs.length≤i⟩
def Itr(lo:Int)(n:Nat):It:=⟨fun i _=>i<n,fun i H x H'=>H'=H∧x=.int (lo+i),fun i _=>n≤i⟩
theorem yn7 {P : Program} {w : World} {K : PySem.W.Frag} {tg : Expr} (a it : Addr) : Turn P w K tg (Itl K a) [it] it (fun i h => h.IsListIter it a i) where
  mem := by simp
  obj := fun i h st b hb => by
    have e : b = it := by simpa using hb
    subst e
    obtain ⟨o, e, c, d⟩ := st
    exact ⟨o, e, fun v z => by rw [d] at z; cases z⟩
  keep := fun i h h' st k => st.at fun o e => k it (by simp) o e
  item := by
    intro X hP hw hK hc i pins s σ H E I hf st hg
    subst hP hw hK
    obtain ⟨xs, x, hq, hx⟩ := hg
    obtain ⟨its, rv, p, hz⟩ := I.list hq
    obtain ⟨u, hu, ru⟩ := rv.get hx
    obtain ⟨f0, f1, f2, f3, f4, f5⟩ := hf it (by simp)
    refine wpAny_pyNext_list_item st p.isList (x := u) (by simpa using hu) fun h' st' sb => ?_
    have I1 : Inv X pins σ H { s with heap := h' } := I.turned (t' := s.toks) (fun b o hb e => (sb.2 b hb).trans e) f0 f1 f3 f4 f5
    obtain ⟨o, e, c, d⟩ := id st'
    exact ⟨u, rfl, go_of (s := { s with heap := h' }) e c d (by decide) ⟨x, H, I1, ru, ⟨rfl, fun ys hy => by rw [I.list_inj hy hq]; exact hx⟩, st', fun b hb => (hf b hb).1⟩⟩
  done := by
    intro X hP hw hK hc i pins s σ H E I hf st hg
    subst hP hw hK
    obtain ⟨xs, hq, hx⟩ := hg
    obtain ⟨its, rv, p, hz⟩ := I.list hq
    obtain ⟨f0, f1, f2, f3, f4, f5⟩ := hf it (by simp)
    have hl := rv.length
    exact wpAny_pyNext_list_end (I.ok.hd hc) st p.isList (by simp; omega) fun h' eb => ⟨rfl, I.turned (t' := s.toks) (fun b o hb e => eb b o hb e) f0 f1 f3 f4 f5⟩
  self := fun _ _ _ _ _ st h => wpAny_pyIter_listiter st h
theorem yl4 {P : Program} {w : World} {K : PySem.W.Frag} {tg : Expr} (it : Addr) (lo : Int) (n : Nat) : Turn P w K tg (Itr lo n) [it] it (fun i h => IsRangeIter h it (lo + (i : Nat) * 1) ((n : Int) - (i : Nat)) 1) where
  mem := by simp
  obj := fun i h st b hb => by
    have e : b = it := by simpa using hb
    subst e
    exact ⟨_, st, fun v z => by
      have z' : Data.fields _ = Data.cell v := z
      cases z'⟩
  keep := fun i h h' st k => k it (by simp) _ st
  item := by
    intro X hP hw hK hc i pins s σ H E I hf st hg
    subst hP hw hK
    obtain ⟨f0, f1, f2, f3, f4, f5⟩ := hf it (by simp)
    have W := Walks.range (prog := X.prog) (w := X.w) (I.ok.hd hc) it lo 1 n
    refine W.item i s _ _ hg st fun v h' tk hv st' kk => ?_
    obtain ⟨t, rfl⟩ := hv
    have I1 : Inv X pins σ H { s with heap := h', toks := tk } := I.turned (fun b o hb e => kk b o (by simpa using hb) e) f0 f1 f3 f4 f5
    refine ⟨_, rfl, go_of (s := { s with heap := h', toks := tk }) (n := "range_iterator") st' rfl rfl (by decide) ⟨.int (lo + i), H, I1, ⟨t, ?_⟩, ⟨rfl, rfl⟩, st', fun b hb => (hf b hb).1⟩⟩
    rw [Int.mul_one]
  done := by
    intro X hP hw hK hc i pins s σ H E I hf st hg
    subst hP hw hK
    obtain ⟨f0, f1, f2, f3, f4, f5⟩ := hf it (by simp)
    exact wpAny_pyNext_range_end (I.ok.hd hc) st (by have : n ≤ i := hg; omega) fun h' eb => ⟨rfl, I.turned (t' := s.toks) (fun b o hb e => eb b o hb e) f0 f1 f3 f4 f5⟩
  self := fun _ _ _ _ _ st h => wpAny_pyIter_rangeiter st h
section
variable {X:Cx}{tg:Expr}
def iList(K:PySem.W.Frag)(tl:TE):TI:=fun σ H R=>tl σ H fun x H1=>∃a,x=.ref a∧(∃xs,SqL K H1 a xs)∧R (Itl K a) H1
theorem pi_list{l:Expr}{tl:TE}(hl:PE X l tl):PI X tg l (iList X.K tl):=by
 intro pins s σ H R I h
 refine thn (hl pins s σ H _ I h) fun v s1 ⟨x,H1,I1,r1,q1⟩=>?_
 obtain⟨a,e,⟨xs,hq⟩,q⟩:=q1
 subst e
 cases r1
 obtain⟨its,rv,p,hz⟩:=I1.list hq
 refine wpAny_pyIter_list p.isList ?_
 refine⟨s1.heap.objs.size,[s1.heap.objs.size],_,_,H1,rfl,I1.kept (t':=s1.toks) fun b o e=>Heap.get?_push_of_some _ e,yn7 a _,⟨_,Heap.get?_push_size _ rfl,rfl,rfl⟩,fun b hb=>?_,q⟩
 have e:b=s1.heap.objs.size:=by simpa using hb
 subst e
 exact I1.fpOk (Nat.le_refl _) (I1.hok.fresh (Nat.le_refl _))
theorem range_it{pins:List (Addr×Obj)}{σ:St}{H:Hp}{s:Shared}{R:It→Hp→Prop}{E:Value→Shared→Prop}{lo hi:Int}{t u v:Tok}{tk:Nat}(I:Inv X pins σ H s)(h1 : -(2 ^ 62)≤lo)(h2:lo<2 ^ 62)(h3 : -(2 ^ 62)≤hi)(h4:hi<2 ^ 62)
  (q:R (Itr lo (hi - lo).toNat) H):wpAny (model X.prog X.w) X.A (pyIter (.ref s.heap.objs.size)) (PIE X pins σ tg R) E { s with heap:=s.heap.push { cls:=.type "range",data:=.fields #[.int lo t,.int hi u,.int 1 v] },toks:=tk }:=by
 refine wpAny_pyIter_range (IsRange.new ..) (small_one h1 h2 h3 h4) ?_
 have I1:Inv X pins σ H { s with heap:=s.heap.push { cls:=.type "range",data:=.fields #[.int lo t,.int hi u,.int 1 v] },toks:=tk }:=I.kept fun b o e=>Heap.get?_push_of_some _ e
 refine⟨(s.heap.push { cls:=.type "range",data:=.fields #[.int lo t,.int hi u,.int 1 v] }).objs.size,[(s.heap.push { cls:=.type "range",data:=.fields #[.int lo t,.int hi u,.int 1 v] }).objs.size],_,_,H,rfl,
  I1.kept (t':=tk) fun b o e=>Heap.get?_push_of_some _ e,yl4 _ lo (hi - lo).toNat,?_,fun b hb=>?_,q⟩
 ·have e1:lo+((0:Nat):Int)*1=lo:=by simp
  have e2:(((hi - lo).toNat:Nat):Int) - ((0:Nat):Int)=Builtin.Range.rangeSize lo hi 1:=by rw[rangeSize_one];split<;>omega
  show IsRangeIter _ _ (lo+((0:Nat):Int)*1) ((((hi - lo).toNat:Nat):Int) - ((0:Nat):Int)) 1
  rw[e1,e2]
  exact Heap.get?_push_size _ rfl
 ·have e:b=(s.heap.push { cls:=.type "range",data:=.fields #[.int lo t,.int hi u,.int 1 v] }).objs.size:=by simpa using hb
  subst e
  exact I1.fpOk (Nat.le_refl _) (I1.hok.fresh (Nat.le_refl _))
def iRng1(ta:TA):TI:=fun σ H R=>ta σ H fun vs H1=>∃j:Int,vs=[.int j] ∧ -(2 ^ 62)≤j∧j<2 ^ 62∧R (Itr 0 j.toNat) H1
theorem yb9{a:Expr}{ta:TA}{p pos:Pos}(hg:Gl X "range")(hm:X.mg "range"=none)(ha:PA X [a] ta)(hs:starEach [a] X.env=[(false,eval a X.env)]:=by rfl):PI X tg (.Call (.Name "range" p) [a] [] pos) (iRng1 ta):=by
 intro pins s σ H R I h
 refine Call_ (yj9 I hg hm boot_range (PyProof.Rows.callWith_type1 (thn (ha pos pins s σ H _ I h) fun us s1 ⟨vs,H1,I1,r1,q1⟩=>?_) hs rfl))
 obtain⟨j,e,q1,q2,q⟩:=q1
 subst e
 cases r1 with
 |cons r rr=>
  cases rr
  obtain⟨t,rfl⟩:=r
  exact call_range_1 (range_it I1 (by omega) (by omega) q1 q2 (by simpa using q))
def tFor(wi:TI)(g:TG)(tb:TS):TS:=fun D σ H=>wi σ H fun J H1=>∃W:Nat→Nat→St→Hp→Prop,(∃m,W 0 m σ H1)∧∀i m σ H,W i m σ H→
 (J.stop i H∧D.nx σ H)∨(J.go i H∧∃N:St→Hp→Prop,(∀σ' H',N σ' H'→∃m',m'<m∧W (i+1) m' σ' H')∧∀x H',J.yld i H x H'→g x σ H' fun σ2 H2=>tb { D with nx:=N,ct:=N,bk:=D.nx } σ2 H2)
def yb8(fp:List Addr)(h:Heap):List (Addr×Obj):=fp.filterMap fun b=>(h.get? b).map fun o=>(b,o)
theorem zm7{fp:List Addr}{h:Heap}{b:Addr}{o:Obj}(hb:b∈fp)(e:h.get? b=some o):(b,o)∈yb8 fp h:=List.mem_filterMap.mpr ⟨b,hb,by rw[e];rfl⟩
theorem of_pinsAt{fp:List Addr}{h:Heap}{p:Addr×Obj}(hp:p∈yb8 fp h):p.1∈fp∧h.get? p.1=some p.2:=by
 obtain⟨b,hb,e⟩:=List.mem_filterMap.mp hp
 cases q:h.get? b with
 |none=>rw[q] at e;cases e
 |some o=>
  rw[q] at e
  have e':(b,o)=p:=Option.some.inj e
  subst e'
  exact⟨hb,q⟩
theorem Inv.pinned{pins:List (Addr×Obj)}{σ:St}{H:Hp}{s:Shared}{fp:List Addr}(I:Inv X pins σ H s)(hf:∀b∈fp,FpOk X pins H b)(ho:∀b∈fp,∃o,s.heap.get? b=some o∧∀v,o.data≠.cell v):Inv X (pins++yb8 fp s.heap) σ H s:=
 I.pins_of fun p hp=>(List.mem_append.mp hp).elim (fun z=>I.pin p (List.mem_append_right _ z)) fun z=>by
  obtain⟨hb,e⟩:=of_pinsAt z
  obtain⟨f0,f1,f2,_⟩:=hf p.1 hb
  obtain⟨o,e',d⟩:=ho p.1 hb
  rw[e] at e';cases e'
  exact⟨e,f0,f1,f2,d⟩
theorem Inv.unpinned{pins pl:List (Addr×Obj)}{σ:St}{H:Hp}{s:Shared}(I:Inv X (pins++pl) σ H s):Inv X pins σ H s:=I.pins_of fun p hp=>I.pin p (List.mem_append_right _ (List.mem_append_left _ hp))
theorem ps_for{iter:Expr}{body:List Stmt}{wi:TI}{g:TG}{tb:TS}{pos:Pos}(hp:PassesOwn (model X.prog X.w) X.A X.env X.xe)(hc:X.calm=true)(hi:PI X tg iter wi)(hg:PG X tg g)(hb:PSs X body tb)
  (hs:∀x,foldedSetIterable iter X.env x=pure x:=by intro _;rfl):PS X (.For tg iter body [] pos) (tFor wi g tb):=by
 intro pins s σ H D I h
 refine wpAny_For (thn (hi pins s σ H _ I h) fun v s1 h1=>thn h1 fun itv s2 h2=>?_) hs
 obtain⟨it,fp,tn,J,H2,e,I2,T,st2,f2,W,⟨m0,w0⟩,turn⟩:=h2
 subst e
 have stat:∀ {H':Hp},(∀b∈fp,H' b=none)→∀b∈fp,FpOk X pins H' b:=fun hn b hb=>⟨hn b hb,(f2 b hb).2⟩
 refine codeAny_forLoop_any (fun n s'=>∃i σ' H',Inv X pins σ' H' s'∧tn i s'.heap∧(∀b∈fp,H' b=none)∧W i n σ' H') ?_ m0 ⟨0,σ,H2,I2,st2,fun b hb=>(f2 b hb).1,w0⟩
 rintro n s3 ⟨i,σ3,H3,I3,st3,fr3,w3⟩
 rcases turn i n σ3 H3 w3 with⟨stop,qn⟩|⟨go,N,hN,step⟩
 ·refine wpAny_passesOwn hp (thn (T.done X rfl rfl rfl hc i pins s3 σ3 H3 X.xe I3 (stat fr3) st3 stop) fun r s4 ⟨hr,I4⟩=>?_)
  subst hr
  exact wpAny_execs_nil ⟨σ3,H3,I4,qn⟩
 ·refine wpAny_passesOwn hp (thn (T.item X rfl rfl rfl hc i pins s3 σ3 H3 X.xe I3 (stat fr3) st3 go) fun r s4 ⟨u,hr,h4⟩=>?_)
  subst hr
  refine wpAny_passesOwn hp (thn h4 fun _ s5 ⟨x,H5,I5,r5,y5,st5,fr5⟩=>?_)
  have I5':=I5.pinned (stat fr5) (T.obj _ _ st5)
  refine wpAny_passesOwn hp (thn (hg _ s5 σ3 H5 x u _ I5' r5 (step x H5 y5)) fun _ s6 ⟨σ6,H6,I6,q6⟩=>?_)
  refine wpAny_passesOwn hp (thn (hb _ s6 σ6 H6 _ I6 q6) fun f s7 q7=>?_)
  have again:∀ {σ7:St} {H7:Hp},Inv X (pins++yb8 fp s5.heap) σ7 H7 s7→N σ7 H7→∃m,m<n∧∃i σ' H',Inv X pins σ' H' s7∧tn i s7.heap∧(∀b∈fp,H' b=none)∧W i m σ' H':=fun {σ7 H7} I7 n7=>by
   obtain⟨m',hm,w7⟩:=hN σ7 H7 n7
   refine⟨m',hm,i+1,σ7,H7,I7.unpinned,T.keep _ _ _ st5 fun b hb o e=>(I7.pin (b,o) (List.mem_append_right _ (List.mem_append_right _ (zm7 hb e)))).1,fun b hb=>?_,w7⟩
   obtain⟨o,e,d⟩:=T.obj _ _ st5 b hb
   exact(I7.pin (b,o) (List.mem_append_right _ (List.mem_append_right _ (zm7 hb e)))).2.1
  cases f with
  |next=>obtain⟨σ7,H7,I7,n7⟩:=q7;exact again I7 n7
  |cont=>obtain⟨σ7,H7,I7,n7⟩:=q7;exact again I7 n7
  |brk=>obtain⟨σ7,H7,I7,q7⟩:=q7;exact⟨σ7,H7,I7.unpinned,q7⟩
  |ret v=>obtain⟨x7,σ7,H7,I7,r7,q7⟩:=q7;exact⟨x7,σ7,H7,I7.unpinned,r7,q7⟩
end
theorem zt8{lo:Int}{n:Nat}{g:TG}{tb:TS}{D:Ends}{σ:St}{H:Hp}(Pv:Nat→St→Hp→Prop)(h0:Pv 0 σ H)
  (hs:∀i σ H,i<n→Pv i σ H→g (.int (lo+i)) σ H fun σ2 H2=>tb { D with nx:=Pv (i+1),ct:=Pv (i+1),bk:=D.nx } σ2 H2) (hd:∀σ H,Pv n σ H→D.nx σ H):
  ∃W:Nat→Nat→St→Hp→Prop,(∃m,W 0 m σ H)∧∀i m σ H,W i m σ H→
   ((Itr lo n).stop i H∧D.nx σ H)∨((Itr lo n).go i H∧∃N:St→Hp→Prop,(∀σ' H',N σ' H'→∃m',m'<m∧W (i+1) m' σ' H')∧∀x H',(Itr lo n).yld i H x H'→g x σ H' fun σ2 H2=>tb { D with nx:=N,ct:=N,bk:=D.nx } σ2 H2):=by
 refine⟨fun i m σ H=>m=n - i∧i≤n∧Pv i σ H,⟨n,by simp,Nat.zero_le _,h0⟩,?_⟩
 rintro i m σ H ⟨rfl,hi,p⟩
 by_cases hlt:i<n
 ·refine .inr ⟨hlt,Pv (i+1),fun σ' H' p'=>⟨n - (i+1),by omega,rfl,hlt,p'⟩,fun x H' y=>?_⟩
  obtain⟨e,y⟩:=y
  subst e y
  exact hs i σ _ hlt p
 ·have e:i=n:=by omega
  subst e
  exact .inl ⟨Nat.le_refl _,hd σ H p⟩
abbrev R2:=V→V→Hp→VK→Prop
def OpR(X:Cx)(f:Value→Value→Sem Value)(r:R2):Prop:=
 ∀(pins:List (Addr×Obj)) (s:Shared) (σ:St) (H:Hp) (x y:V) (v u:Value) (Q:VK),Inv X pins σ H s→RelV x v→RelV y u→r x y H Q→
  wpAny (model X.prog X.w) X.A (f v u) (EP X pins σ Q) X.xe s
def UnR(X:Cx)(f:Value→Sem Value)(r:V→Hp→VK→Prop):Prop:=
 ∀(pins:List (Addr×Obj)) (s:Shared) (σ:St) (H:Hp) (x:V) (v:Value) (Q:VK),Inv X pins σ H s→RelV x v→r x H Q→
  wpAny (model X.prog X.w) X.A (f v) (EP X pins σ Q) X.xe s
def CallR(X:Cx)(f:Value)(r:List V→Hp→VK→Prop):Prop:=
 ∀(pins:List (Addr×Obj)) (s:Shared) (σ:St) (H:Hp) (xs:List V) (us:List Value) (Q:VK),Inv X pins σ H s→Vals xs us→r xs H Q→
  wpAny (model X.prog X.w) X.A (call f us) (EP X pins σ Q) X.xe s
def TruR(X:Cx)(r:V→Hp→(Bool→Hp→Prop)→Prop):Prop:=
 ∀(pins:List (Addr×Obj)) (s:Shared) (σ:St) (H:Hp) (x:V) (v:Value) (Q:Bool→Hp→Prop),Inv X pins σ H s→RelV x v→r x H Q→
  wpAny (model X.prog X.w) X.A (truthy v) (TP X pins σ Q) X.xe s
def tOp(r:R2)(ta tb:TE):TE:=fun σ H Q=>ta σ H fun x H1=>tb σ H1 fun y H2=>r x y H2 Q
def tUn(r:V→Hp→VK→Prop)(ta:TE):TE:=fun σ H Q=>ta σ H fun x H1=>r x H1 Q
def rI(C:Int→Int→Prop)(g:Int→Int→V):R2:=fun x y H Q=>∃i j,x=.int i∧y=.int j∧C i j∧Q (g i j) H
def rI0(g:Int→Int→V):R2:=fun x y H Q=>∃i j,x=.int i∧y=.int j∧Q (g i j) H
def rU(g:Int→V):V→Hp→VK→Prop:=fun x H Q=>∃i,x=.int i∧Q (g i) H
section
variable {X:Cx}{a b c:Expr}{ta tb tc:TE}{pos:Pos}
theorem binT(ha:PE X a ta)(hb:PE X b tb){pins:List (Addr×Obj)}{s:Shared}{σ:St}{H:Hp}{R:V→V→Hp→Prop}(I:Inv X pins σ H s)
  (h:ta σ H fun x H1=>tb σ H1 fun y H2=>R x y H2) {Q:Value→Shared→Prop} {f:Value→Value→Sem Value}
  (hf:∀v u s2 x y H2,Inv X pins σ H2 s2→RelV x v→RelV y u→R x y H2→wpAny (model X.prog X.w) X.A (f v u) Q X.xe s2):
  wpAny (model X.prog X.w) X.A (eval a X.env) (fun v s₁=>wpAny (model X.prog X.w) X.A (eval b X.env) (fun u s₂=>wpAny (model X.prog X.w) X.A (f v u) Q X.xe s₂) X.xe s₁) X.xe s:=by
 refine thn (ha pins s σ H _ I h) fun v s1 ⟨x,H1,I1,r1,q1⟩=>?_
 refine thn (hb pins s1 σ H1 _ I1 q1) fun u s2 ⟨y,H2,I2,r2,q2⟩=>?_
 exact hf v u s2 x y H2 I2 r1 r2 q2
theorem pe_op{op:Operator}{r:R2}(ho:OpR X (binaryOp op) r)(ha:PE X a ta)(hb:PE X b tb):PE X (.BinOp a op b pos) (tOp r ta tb):=by
 intro pins s σ H Q I h
 exact wpAny_BinOp (binT ha hb I h fun v u s2 x y H2 I2 rx ry q=>ho pins s2 σ H2 x y v u Q I2 rx ry q)
theorem pe_un{op:UnaryOp}{r:V→Hp→VK→Prop}(ho:UnR X (unaryOp op) r)(ha:PE X a ta):PE X (.UnaryOp op a pos) (tUn r ta):=by
 intro pins s σ H Q I h
 exact UnaryOp_ (thn (ha pins s σ H _ I h) fun v s1 ⟨x,H1,I1,r1,q1⟩=>ho pins s1 σ H1 x v Q I1 r1 q1)
theorem opI{f:Value→Value→Sem Value}{C:Int→Int→Prop}{g:Int→Int→Int}
  (rule:∀(i j:Int) (t u:Tok) (s:Shared) (Q:Value→Shared→Prop) (E:Value→Shared→Prop),C i j→Q (.int (g i j) s.toks) { s with toks:=s.toks+1 }→wpAny (model X.prog X.w) X.A (f (.int i t) (.int j u)) Q E s):
  OpR X f (rI C fun i j=>.int (g i j)):=by
 intro pins s σ H x y v u Q I rx ry h
 obtain⟨i,j,rfl,rfl,hc,q⟩:=h
 obtain⟨t,rfl⟩:=rx
 obtain⟨t',rfl⟩:=ry
 exact rule i j t t' s _ _ hc ⟨.int (g i j),H,I.tok _,⟨_,rfl⟩,q⟩
theorem opI0{f:Value→Value→Sem Value}{g:Int→Int→Int}
  (rule:∀(i j:Int) (t u:Tok) (s:Shared) (Q:Value→Shared→Prop) (E:Value→Shared→Prop),Q (.int (g i j) s.toks) { s with toks:=s.toks+1 }→wpAny (model X.prog X.w) X.A (f (.int i t) (.int j u)) Q E s):
  OpR X f (rI0 fun i j=>.int (g i j)):=by
 intro pins s σ H x y v u Q I rx ry h
 obtain⟨i,j,rfl,rfl,q⟩:=h
 obtain⟨t,rfl⟩:=rx
 obtain⟨t',rfl⟩:=ry
 exact rule i j t t' s _ _ ⟨.int (g i j),H,I.tok _,⟨_,rfl⟩,q⟩
theorem opB0{f:Value→Value→Sem Value}{g:Int→Int→Bool}
  (rule:∀(i j:Int) (t u:Tok) (s:Shared) (Q:Value→Shared→Prop) (E:Value→Shared→Prop),Q (.bool (g i j)) s→wpAny (model X.prog X.w) X.A (f (.int i t) (.int j u)) Q E s):
  OpR X f (rI0 fun i j=>.bl (g i j)):=by
 intro pins s σ H x y v u Q I rx ry h
 obtain⟨i,j,rfl,rfl,q⟩:=h
 obtain⟨t,rfl⟩:=rx
 obtain⟨t',rfl⟩:=ry
 exact rule i j t t' s _ _ ⟨.bl (g i j),H,I,rfl,q⟩
def CDiv(i j:Int):Prop:=0<j∧j<1073741824
def CMul(i j:Int):Prop:=(-(2 ^ 64)<i∧i<2 ^ 64)∨(-(2 ^ 64)<j∧j<2 ^ 64)
theorem CMul.ok{i j:Int}(h:CMul i j):IntMulOk i j:=by
 rcases h with⟨h1,h2⟩|⟨h1,h2⟩
 ·exact .of_left (intBits_le_64 h1 h2)
 ·exact .of_right (intBits_le_64 h1 h2)
theorem zg7:OpR X (binaryOp .Add) (rI0 fun i j=>.int (i+j)):=opI0 fun _ _ _ _ _ _ _ q=>add_int q
theorem yj8:OpR X (binaryOp .Sub) (rI0 fun i j=>.int (i - j)):=opI0 fun _ _ _ _ _ _ _ q=>sub_int q
theorem zs9:OpR X (binaryOp .Mult) (rI CMul fun i j=>.int (i*j)):=opI fun _ _ _ _ _ _ _ hc q=>mul_int q hc.ok
theorem zl2:OpR X (binaryOp .FloorDiv) (rI CDiv fun i j=>.int (i / j)):=opI fun i j _ _ _ _ _ hc q=>by
 have h1:(0:Int)<j:=hc.1
 have h2:j<1073741824:=hc.2
 exact floordiv_int (by omega) (by rw[Int.fdiv_eq_ediv_of_nonneg i (by omega)];exact q) (.inl (PyProof.noPylong_small (by omega)))
theorem zf5:OpR X (binaryOp .Mod) (rI (fun _ j=>0<j) fun i j=>.int (i % j)):=opI fun i j _ _ _ _ _ hc q=>by
 have h1:(0:Int)<j:=hc
 exact mod_int' (by omega) (by rw[Int.fmod_eq_emod_of_nonneg i (by omega)];exact q)
theorem unI{f:Value→Sem Value}{g:Int→Int}
  (rule:∀(i:Int) (t:Tok) (s:Shared) (Q:Value→Shared→Prop) (E:Value→Shared→Prop),Q (.int (g i) s.toks) { s with toks:=s.toks+1 }→wpAny (model X.prog X.w) X.A (f (.int i t)) Q E s):
  UnR X f (rU fun i=>.int (g i)):=by
 intro pins s σ H x v Q I rx h
 obtain⟨i,rfl,q⟩:=h
 obtain⟨t,rfl⟩:=rx
 exact rule i t s _ _ ⟨.int (g i),H,I.tok _,⟨_,rfl⟩,q⟩
theorem zu4:UnR X (unaryOp .USub) (rU fun i=>.int (-i)):=unI fun _ _ _ _ _ q=>neg_int q
end
def scal:V→V→Bool
 |.non,.non=>true|.non,.int _=>true|.int _,.non=>true|.non,.bl _=>true|.bl _,.non=>true|.non,.str _=>true|.str _,.non=>true
 |.int _,.int _=>true|.bl _,.bl _=>true|.str _,.str _=>true|.byt _,.byt _=>true
 |.int _,.str _=>true|.str _,.int _=>true|.bl _,.str _=>true|.str _,.bl _=>true
 |_,_=>false
def rEq:R2:=fun x y H Q=>scal x y=true∧Q (.bl (decide (x=y))) H
theorem dec_int{i j:Int}:decide (V.int i=V.int j)=(i==j):=by
 rw[Bool.eq_iff_iff]
 simp
theorem dec_bl{i j:Bool}:decide (V.bl i=V.bl j)=(i==j):=by
 rw[Bool.eq_iff_iff]
 simp
theorem dec_str{i j:Str}:decide (V.str i=V.str j)=(i==j):=by
 rw[Bool.eq_iff_iff]
 simp
theorem dec_byt{i j:Array UInt8}:decide (V.byt i=V.byt j)=(i.toList==j.toList):=by
 rw[Bool.eq_iff_iff]
 cases i
 cases j
 simp
section
variable {X:Cx}{a b c:Expr}{ta tb tc:TE}{pos:Pos}
theorem zg9{pins:List (Addr×Obj)}{σ:St}{H:Hp}{s:Shared}{Q:VK}{k k':Bool}(I:Inv X pins σ H s)(q:Q (.bl k) H)(e:k=k'):EP X pins σ Q (.bool k') s:=by
 subst e
 exact⟨.bl k,H,I,rfl,q⟩
theorem zm9:OpR X (compareOp .Eq) rEq:=by
 intro pins s σ H x y v u Q I rx ry h
 obtain⟨hs,q⟩:=h
 cases x with
 |non=>
  cases rx
  cases y with
  |non=>cases ry;exact PySem.EqNone.eq_none_none (zg9 I q (by simp))
  |bl j=>cases ry;exact PySem.EqNone.eq_none_bool (zg9 I q (by simp))
  |int j=>obtain⟨t',rfl⟩:=ry;exact PySem.EqNone.eq_none_int (zg9 I q (by simp))
  |str j=>obtain⟨t',rfl⟩:=ry;exact PySem.EqNone.eq_none_str (zg9 I q (by simp))
  |_=>exact absurd (show false=true from hs) Bool.false_ne_true
 |bl i=>
  cases rx
  cases y with
  |non=>cases ry;exact PySem.EqNone.eq_bool_none (zg9 I q (by simp))
  |bl j=>cases ry;exact eq_bool (zg9 I q dec_bl)
  |str j=>obtain⟨t',rfl⟩:=ry;exact PySem.EqMixed.eq_bool_str (zg9 I q (by simp))
  |_=>exact absurd (show false=true from hs) Bool.false_ne_true
 |int i=>
  obtain⟨t,rfl⟩:=rx
  cases y with
  |non=>cases ry;exact PySem.EqNone.eq_int_none (zg9 I q (by simp))
  |int j=>obtain⟨t',rfl⟩:=ry;exact eq_int (zg9 I q dec_int)
  |str j=>obtain⟨t',rfl⟩:=ry;exact PySem.EqMixed.eq_int_str (zg9 I q (by simp))
  |_=>exact absurd (show false=true from hs) Bool.false_ne_true
 |str i=>
  obtain⟨t,rfl⟩:=rx
  cases y with
  |non=>cases ry;exact PySem.EqNone.eq_str_none (zg9 I q (by simp))
  |bl j=>cases ry;exact PySem.EqMixed.eq_str_bool (zg9 I q (by simp))
  |int j=>obtain⟨t',rfl⟩:=ry;exact PySem.EqMixed.eq_str_int (zg9 I q (by simp))
  |str j=>obtain⟨t',rfl⟩:=ry;exact eq_str (zg9 I q dec_str)
  |_=>exact absurd (show false=true from hs) Bool.false_ne_true
 |byt i=>
  obtain⟨t,rfl⟩:=rx
  cases y with
  |byt j=>obtain⟨t',rfl⟩:=ry;exact PySem.W.eq_bytes (zg9 I q dec_byt)
  |_=>exact absurd (show false=true from hs) Bool.false_ne_true
 |_=>cases y<;>exact absurd (show false=true from hs) Bool.false_ne_true
theorem yc2:OpR X (compareOp .Lt) (rI0 fun i j=>.bl (decide (i<j))):=opB0 fun _ _ _ _ _ _ _ q=>lt_int q
theorem op_gt:OpR X (compareOp .Gt) (rI0 fun i j=>.bl (decide (j<i))):=opB0 fun _ _ _ _ _ _ _ q=>gt_int q
theorem op_in_str:OpR X (compareOp .In) (fun x y H Q=>∃i j,x=.str i∧y=.str j∧Q (.bl (!(Builtin.Str.occurrences j i 0 j.length 1).isEmpty)) H):=by
 intro pins s σ H x y v u Q I rx ry h
 obtain⟨i,j,rfl,rfl,q⟩:=h
 obtain⟨t,rfl⟩:=rx
 obtain⟨t',rfl⟩:=ry
 exact in_str (zg9 I q rfl)
theorem op_isN:OpR X (compareOp .Is) (fun x y H Q=>y=.non∧Q (.bl (decide (x=.non))) H):=by
 intro pins s σ H x y v u Q I rx ry h
 obtain⟨rfl,q⟩:=h
 cases ry
 refine is_none_gen (zg9 I q ?_)
 cases x<;>first
  |(cases rx;rfl)
  |(obtain⟨t,rfl⟩:=rx;rfl)
theorem yc1:OpR X (compareOp .NotIn) (fun x y H Q=>∃i j,x=.str i∧y=.str j∧Q (.bl (!(!(Builtin.Str.occurrences j i 0 j.length 1).isEmpty))) H):=by
 intro pins s σ H x y v u Q I rx ry h
 obtain⟨i,j,rfl,rfl,q⟩:=h
 obtain⟨t,rfl⟩:=rx
 obtain⟨t',rfl⟩:=ry
 exact notIn_str (zg9 I q rfl)
theorem OpR.or{f:Value→Value→Sem Value}{r r':R2}(h:OpR X f r)(h':OpR X f r'):OpR X f (fun x y H Q=>r x y H Q∨r' x y H Q):=by
 intro pins s σ H x y v u Q I rx ry q
 rcases q with q|q
 ·exact h pins s σ H x y v u Q I rx ry q
 ·exact h' pins s σ H x y v u Q I rx ry q
theorem ze1(b:Expr){op:CmpOp}(h:op≠.In:=by decide)(h2:op≠.NotIn:=by decide):behindInMarks op b=false:=by
 have e1:(op==CmpOp.In)=false:=by cases op<;>first|rfl|exact absurd rfl h
 have e2:(op==CmpOp.NotIn)=false:=by cases op<;>first|rfl|exact absurd rfl h2
 cases b<;>simp[behindInMarks,e1,e2]
theorem pe_cmpR{op:CmpOp}{r:R2}(ho:OpR X (compareOp op) r)(ha:PE X a ta)(hb:PE X b tb)(hm:behindInMarks op b=false):PE X (.Compare a [op] [b] pos) (tOp r ta tb):=by
 intro pins s σ H Q I h
 exact wpAny_Compare1 (binT ha hb I h fun v u s2 x y H2 I2 rx ry q=>ho pins s2 σ H2 x y v u Q I2 rx ry q) hm
def yl5(t:TE):TT:=fun σ H Q=>t σ H fun x H'=>∃k,x=.bl k∧Q k H'
theorem pt_cmpR{op:CmpOp}{r:R2}(ho:OpR X (compareOp op) r)(ha:PE X a ta)(hb:PE X b tb)(hm:behindInMarks op b=false):PT X (.Compare a [op] [b] pos) (yl5 (tOp r ta tb)):=by
 intro pins s σ H Q I h
 refine wpAny_isTrue_Compare1 (thn (ha pins s σ H _ I h) fun v s1 ⟨x,H1,I1,r1,q1⟩=>thn (hb pins s1 σ H1 _ I1 q1) fun u s2 ⟨y,H2,I2,r2,q2⟩=>
  thn (ho pins s2 σ H2 x y v u _ I2 r1 r2 q2) fun c s3 ⟨z,H3,I3,r3,k,e,q3⟩=>?_) hm
 subst e
 cases r3
 exact wpAny_truthy_bool ⟨H3,I3,q3⟩
def TruV(K:PySem.W.Frag)(x:V)(H:Hp)(k:Bool):Prop:=
 match x with
 |.non=>k=false
 |.bl b=>k=b
 |.int i=>k=(i != 0)
 |.str y=>y.length≤sizeLine∧k=((y.length:Int) != 0)
 |.byt y=>y.size≤sizeLine∧k=((y.size:Int) != 0)
 |.ref p=>(∃xs,SqL K H p xs∧k = !xs.isEmpty)∨(∃xs,SqT K H p xs∧k = !xs.isEmpty)∨∃kvs,H p=some (.dK kvs)∧k = !kvs.isEmpty
 |_=>False
theorem ym8{κ:Type}{kvs:List (κ×V)}{vs:List (κ×Value)}(r:KV kvs vs):(!vs.isEmpty) = !kvs.isEmpty:=by
 cases r<;>rfl
theorem zv9{xs:List V}{its:List Value}(r:Vals xs its):(!its.toArray.isEmpty) = !xs.isEmpty:=by
 cases r<;>simp
theorem zv6:(sizeLine:Nat)<2 ^ 63:=by rw[sizeLine_eq];decide
theorem tru_ok:TruR X (fun x H Q=>∃k,TruV X.K x H k∧Q k H):=by
 intro pins s σ H x v Q I rx h
 obtain⟨k,e,q⟩:=h
 have hl:=zv6
 have hs:sizeLine=16777216:=sizeLine_eq
 cases x with
 |non=>
  cases rx
  have e':k=false:=e
  subst e'
  exact truthy_none ⟨H,I,q⟩
 |bl b=>
  cases rx
  have e':k=b:=e
  subst e'
  exact wpAny_truthy_bool ⟨H,I,q⟩
 |int i=>
  obtain⟨t,rfl⟩:=rx
  have e':k=(i != 0):=e
  subst e'
  exact PySem.P.truthy_int ⟨H,I,q⟩
 |str y=>
  obtain⟨t,rfl⟩:=rx
  obtain⟨hy,e'⟩:y.length≤sizeLine∧k=((y.length:Int) != 0):=e
  subst e'
  exact PySem.P.truthy_str (by omega) ⟨H,I.tok _,q⟩
 |byt y=>
  obtain⟨t,rfl⟩:=rx
  obtain⟨hy,e'⟩:y.size≤sizeLine∧k=((y.size:Int) != 0):=e
  subst e'
  exact PySem.W.truthy_bytes (by omega) ⟨H,I.tok _,q⟩
 |ref p=>
  cases rx
  have e':(∃xs,SqL X.K H p xs∧k = !xs.isEmpty)∨(∃xs,SqT X.K H p xs∧k = !xs.isEmpty)∨∃kvs,H p=some (.dK kvs)∧k = !kvs.isEmpty:=e
  rcases e' with⟨xs,hx,e'⟩|⟨xs,hx,e'⟩|⟨kvs,hx,e'⟩
  ·subst e'
   obtain⟨its,r,pl,hz⟩:=I.list hx
   have hlen:=r.length
   exact wpAny_truthy_list pl.isList (by simp only[List.size_toArray];omega) ⟨H,I.tok _,by rw[zv9 r];exact q⟩
  ·subst e'
   obtain⟨its,r,pl,hz⟩:=I.tuple hx
   have hlen:=r.length
   exact truthy_tuple pl (by simp only[List.size_toArray];omega) ⟨H,I.tok _,by rw[zv9 r];exact q⟩
  ·subst e'
   obtain⟨hz,hS,vs,r,m⟩:kvs.length≤sizeLine∧(p==sysModules)=false∧∃vs,KV kvs vs∧s.heap.DictOf (zg0 X.prog X.w) p vs:=I.hok p _ hx
   have hlen:kvs.length=vs.length:=Paired.length r
   exact wpAny_truthy_dict hS m (by omega) ⟨H,I.tok _,by rw[ym8 r];exact q⟩
 |_=>exact(show False from e).elim
theorem yi5(ha:PE X a ta)(he:∀whole,isTrue a X.env whole=(do let v ←whole;standAt a.pos;holding [v] (truthy v))):
  PT X a (fun σ H Q=>ta σ H fun x H'=>∃k,TruV X.K x H' k∧Q k H'):=by
 intro pins s σ H Q I h
 exact isTrue_plain (thn (ha pins s σ H _ I h) fun v s1 ⟨x,H1,I1,r1,q1⟩=>tru_ok pins s1 σ H1 x v Q I1 r1 q1) (he _)
theorem zh1:OpR X (binaryOp .Add) (fun x y H Q=>∃i j,x=.str i∧y=.str j∧i.length+j.length≤sizeLine∧Q (.str (i++j)) H):=by
 intro pins s σ H x y v u Q I rx ry h
 obtain⟨i,j,rfl,rfl,hz,q⟩:=h
 obtain⟨t,rfl⟩:=rx
 obtain⟨t',rfl⟩:=ry
 exact add_str (fun t' tk=>⟨.str (i++j),H,I.tok _,⟨_,rfl⟩,q⟩) hz
theorem zw8{x:V}{us:List Value}(r:Vals [x] us):∃u,us=[u]∧RelV x u:=by
 cases r with
 |cons r1 r2=>cases r2;exact⟨_,rfl,r1⟩
theorem vals2{x y:V}{us:List Value}(r:Vals [x,y] us):∃u w',us=[u,w']∧RelV x u∧RelV y w':=by
 cases r with
 |cons r1 r2=>
  cases r2 with
  |cons r3 r4=>cases r4;exact⟨_,_,rfl,r1,r3⟩
theorem zu0:CallR X (.type "int") (fun xs H Q=>(∃i,xs=[.int i]∧Q (.int i) H)∨∃k,xs=[.bl k]∧Q (.int (if k then 1 else 0)) H):=by
 intro pins s σ H xs us Q I r h
 rcases h with⟨i,rfl,q⟩|⟨k,rfl,q⟩
 ·obtain⟨u,rfl,t,rfl⟩:=zw8 r
  exact call_int_int ⟨.int i,H,I,⟨_,rfl⟩,q⟩
 ·obtain⟨u,rfl,r1⟩:=zw8 r
  cases r1
  exact call_int_bool ⟨.int (if k then 1 else 0),H,I.tok _,⟨_,rfl⟩,q⟩
theorem call_str_int:CallR X (.type "str") (fun xs H Q=>∃i,xs=[.int i]∧i.natAbs.log2<1920∧Q (.str (toString i)) H):=by
 intro pins s σ H xs us Q I r h
 obtain⟨i,rfl,hz,q⟩:=h
 obtain⟨u,rfl,t,rfl⟩:=zw8 r
 exact PySem.P.str_of_int hz ⟨.str _,H,I.tok _,⟨_,rfl⟩,q⟩
end
structure ObjM(h:Heap)(x dx C:Addr)(mA:Str→Option Value):Prop where
 obj:h.get? x=some (PySem.W.instObj C dx)
 ns:h.Ns1 dx mA
 ne:dx≠x
theorem yc6{h:Heap}{dx:Addr}{mA:Str→Option Value}(n:h.Ns1 dx mA):∃od,h.get? dx=some od∧∀name,PySem.W.lookIn name od=some (mA name):=by
 obtain⟨o,es,ep,ho,hd,hk,_,hm⟩:=n
 refine⟨o,ho,fun name=>?_⟩
 have e:=hm name
 unfold nsFind findBy at e
 rw[←Array.find?_toList] at e
 unfold PySem.W.lookIn
 rw[hd]
 dsimp only
 split
 ·rename_i y q
  rw[q] at e
  exact congrArg some e
 ·rename_i q
  rw[q] at e
  have a:es.toList.any (·.refKey)=false:=by
   rw[List.any_eq_false]
   intro y hy
   obtain⟨z,t,hkey⟩:=hk y (Array.mem_toList_iff.mp hy)
   simp[DictEntry.refKey,hkey]
  have a':¬es.toList.any (·.refKey)=true:=by rw[a];exact Bool.false_ne_true
  rw[if_neg a']
  exact congrArg some e
theorem ObjM.look{h:Heap}{x dx C:Addr}{mA:Str→Option Value}(I:ObjM h x dx C mA):∃od,PySem.W.InstAt h x (PySem.W.instObj C dx) C (some od)∧∀name,PySem.W.lookIn name od=some (mA name):=
 let ⟨od,ho,hl⟩:=yc6 I.ns
 ⟨od,⟨I.obj,rfl,rfl,ho⟩,hl⟩
section
variable {prog:Program}{w:World}{A:Around}{E:Value→Shared→Prop}{s:Shared}{K:PySem.W.Frag}{x dx C f:Addr}{mA:Str→Option Value}{name:Str}{v:Value}
theorem get_map{expr:Bool}{Q:Value→Shared→Prop}(X:K.In s.heap)(I:ObjM s.heap x dx C mA)(hg:PySem.W.plainGet K C name=true)(hh:PySem.W.hasDictIn K C=true)
  (ha:PySem.W.findIn K (.ref C) name=some none) (hv:mA name=some v) (hv':PySem.W.handedIn v=true) (h:Q v { s with toks:=s.toks+1 }):
  wpAny (model prog w) A (getAttr (.ref x) name expr) Q E s:=by
 obtain⟨od,J,hl⟩:=I.look
 exact PySem.W.get_value X J (PySem.W.plainGet_of hg).1 (PySem.W.findObj_own hh ha rfl (by rw[hl,hv])) hv' h
theorem get_meth{pl:Sem Bool}{Q:Value×List Value→Shared→Prop}(X:K.In s.heap)(I:ObjM s.heap x dx C mA)(hg:PySem.W.plainGet K C name=true)
  (hf:PySem.W.findIn K (.ref C) name=some (some (.ref f))) (ht:PySem.W.isFn K (.ref f)=true) (hv:mA name=none) (h:Q (.ref f,[.ref x]) s):
  wpAny (model prog w) A (getMethod (.ref x) name pl) Q E s:=by
 obtain⟨od,J,hl⟩:=I.look
 exact PySem.W.method_fn X J (PySem.W.plainGet_of hg).1 (PySem.W.plainGet_of hg).2 hf (beq_iff_eq.mp ht) (by show(PySem.W.lookIn name od).map (·.isSome)=some false;rw[hl,hv];rfl) h
theorem set_map{ns:List Str}{Q:Unit→Shared→Prop}(X:K.In s.heap)(I:ObjM s.heap x dx C mA)
  (hs:PySem.W.findIn K (.ref C) "__setattr__"=some (some (.builtin "object.__setattr__"))) (hp:PySem.W.plainOver K C=true) (ht:PySem.W.takerIn K C name=some none) (hh:PySem.W.hasDictIn K C=true)
  (hw:PySem.Within mA ns) (hsz:ns.length≤sizeLine)
  (h:∀h',ObjM h' x dx C (fun y=>if y=name then some v else mA y)→Heap.SameBut dx s.heap h'→Q () { s with heap:=h',toks:=s.toks+2 }):
  wpAny (model prog w) A (setAttr (.ref x) name v) Q E s:=by
 obtain⟨od,J,hl⟩:=I.look
 refine PySem.W.set_plain X J hs (PySem.W.osa_open (s:={ s with toks:=s.toks+1 }) (r:=none) X J hp ht fun b=>?_)
 obtain⟨cd,hc,hd'⟩:=PySem.W.any_some hh
 have hx:s.heap.get? x=some ⟨.ref C,some dx,.plain, #[]⟩:=I.obj
 refine wpAny_bind (wpAny_pure (wpAny_bind (wpAny_bind (wpAny_loadPart hx (wpAny_bind (PySem.W.Looks.here (s:={ s with toks:=s.toks+1 }) (PySem.W.looks_clsIn X hc) ?_))))))
 rw[hd']
 refine wpAny_pure (a:=some dx) (wpAny_bind (wpAny_pure (wpAny_bind ?_)))
 refine wpAny_nsSet1 (s:={ s with toks:=s.toks+1 }) I.ns fun h' hn2 hs2=>?_
 obtain⟨oD,esD,epD,hoD,hdD,hcD⟩:=hn2.count (PySem.Within.cons name v hw)
 refine wpAny_bind (wpAny_lookBehind hoD (by rw[hdD];exact pastItsLine_dict (Nat.le_trans hcD (by rw[List.length_cons];omega))) ?_)
 exact wpAny_pure (h _ ⟨(hs2.2 _ (Ne.symm I.ne)).trans I.obj,hn2,I.ne⟩ hs2)
theorem make_map{R:Result→Shared→Prop}{vs:List Value}{kw:List (Str×Value)}(X:K.In s.heap)(hm:PySem.W.makesIn K C=true)
  (hi:PySem.W.findIn K (.ref C) "__init__"=some (some (.ref f))) (hf:PySem.W.typeIn K (.ref f)=some (.type "function"))
  (h:codeAny (model prog w) (A.under (.builtin "type.__call__" ⟨.ref C::vs,kw⟩)) (.call (.ref f) ⟨.ref (s.heap.objs.size+1)::vs,kw⟩) (PySem.W.InitBack (s.heap.objs.size+1) R)
   { s with heap:=(s.heap.push PySem.W.emptyDict).push (PySem.W.instObj C s.heap.objs.size) }):
  codeAny (model prog w) A (.call (.ref C) ⟨vs,kw⟩) R s:=by
 obtain⟨hh,g,d,t,os⟩:=s
 exact PySem.W.make_core (PySem.W.makes_of X hm) (PySem.W.looks_findIn X hi) (fun self=>PySem.W.bind_fn X self hf) (.inl rfl) h
end
def zq6(f:Str)(v:V):List (Str×V)→List (Str×V)
 |[]=>[(f,v)]
 |(g,x)::r=>if g=f then(g,v)::r else(g,x)::zq6 f v r
theorem zt1(f g:Str)(v:V):∀fs:List (Str×V),(zq6 f v fs).lookup g=if g=f then some v else fs.lookup g
 |[]=>by
  show List.lookup g [(f,v)]=_
  by_cases h:g=f
  ·have hb:(g==f)=true:=beq_iff_eq.mpr h
   simp only[List.lookup,hb,if_pos h]
  ·have hb:(g==f)=false:=beq_eq_false_iff_ne.mpr h
   simp only[List.lookup,hb,if_neg h]
 |(k,x)::r=>by
  have ih:=zt1 f g v r
  rw[show zq6 f v ((k,x)::r)=(if k=f then(k,v)::r else(k,x)::zq6 f v r) from rfl]
  by_cases hk:k=f
  ·rw[if_pos hk]
   by_cases h:g=k
   ·have hb:(g==k)=true:=beq_iff_eq.mpr h
    simp only[List.lookup,hb,if_pos (h.trans hk)]
   ·have hb:(g==k)=false:=beq_eq_false_iff_ne.mpr h
    simp only[List.lookup,hb,if_neg (fun e:g=f=>h (e.trans hk.symm))]
  ·rw[if_neg hk]
   by_cases h:g=k
   ·have hb:(g==k)=true:=beq_iff_eq.mpr h
    simp only[List.lookup,hb,if_neg (fun e:g=f=>hk (h.symm.trans e))]
   ·have hb:(g==k)=false:=beq_eq_false_iff_ne.mpr h
    simp only[List.lookup,hb]
    exact ih
theorem zt4(f:Str)(v:V):∀fs:List (Str×V),f∈(zq6 f v fs).map (·.1)∧∀g,g∈fs.map (·.1)→g∈(zq6 f v fs).map (·.1)
 |[]=>⟨by simp[zq6],fun g h=>by simp at h⟩
 |(k,x)::r=>by
  obtain⟨i1,i2⟩:=zt4 f v r
  rw[show zq6 f v ((k,x)::r)=(if k=f then(k,v)::r else(k,x)::zq6 f v r) from rfl]
  by_cases hk:k=f
  ·rw[if_pos hk]
   subst hk
   exact⟨by simp,fun g h=>by simpa using h⟩
  ·rw[if_neg hk]
   refine⟨?_,fun g h=>?_⟩
   ·rw[List.map_cons]
    exact List.mem_cons_of_mem _ i1
   ·rw[List.map_cons] at h ⊢
    rcases List.mem_cons.mp h with e|e
    ·exact List.mem_cons.mpr (.inl e)
    ·exact List.mem_cons_of_mem _ (i2 g e)
theorem zt2(f:Str)(v:V):∀fs:List (Str×V),(zq6 f v fs).length≤fs.length+1
 |[]=>by simp[zq6]
 |(k,x)::r=>by
  have ih:=zt2 f v r
  rw[show zq6 f v ((k,x)::r)=(if k=f then(k,v)::r else(k,x)::zq6 f v r) from rfl]
  by_cases hk:k=f
  ·rw[if_pos hk,List.length_cons,List.length_cons];omega
  ·rw[if_neg hk,List.length_cons,List.length_cons];omega
theorem RelO.some_of{v:V}{o:Option Value}(r:RelO (some v) o):∃u,o=some u∧RelV v u:=by
 cases o with
 |none=>exact(show False from r).elim
 |some u=>exact⟨u,rfl,r⟩
theorem RelO.none_of{o:Option Value}(r:RelO none o):o=none:=by
 cases o with
 |none=>rfl
 |some u=>exact(show False from r).elim
theorem yc9{v:V}{u:Value}(r:RelV v u):PySem.W.handedIn u=true:=by
 cases v with
 |non=>cases(show u=Value.none from r);rfl
 |bl b=>cases(show u=Value.bool b from r);rfl
 |int i=>obtain⟨t,e⟩:=(show ∃t,u=Value.int i t from r);cases e;rfl
 |str x=>obtain⟨t,e⟩:=(show ∃t,u=Value.str x t from r);cases e;rfl
 |byt b=>obtain⟨t,e⟩:=(show ∃t,u=Value.bytes b t from r);cases e;rfl
 |flt b=>obtain⟨t,e⟩:=(show ∃t,u=Value.float b t from r);cases e;rfl
 |ref a=>cases(show u=Value.ref a from r);rfl
 |ty n=>cases(show u=Value.type n from r);rfl
section
variable {P:Program}{w:World}{H H':Hp}{h h':Heap}{a C dx:Addr}{fs fs':List (Str×V)}
theorem zz7(hok:HOk P w H h)(e:H a=some (.ins C dx fs)):∃mA,ObjM h a dx C mA∧(∀f,RelO (fs.lookup f) (mA f))∧PySem.Within mA (fs.map (·.1))∧fs.length≤1000∧H dx=some (.own a):=by
 obtain⟨d,z,ne,ob,mA,n,r,q⟩:=(show ObjOk P w H h a (.ins C dx fs) from hok a _ e)
 exact⟨mA,⟨ob,n,ne⟩,r,q,z,d⟩
end
structure Cls(K:PySem.W.Frag)(C:Addr):Prop where
 pg:PySem.W.plainGet K C Str.empty=true
 hd:PySem.W.hasDictIn K C=true
 po:PySem.W.plainOver K C=true
 sa:PySem.W.findIn K (.ref C) "__setattr__"=some (some (.builtin "object.__setattr__"))
theorem Cls.get{K:PySem.W.Frag}{C:Addr}(c:Cls K C)(f:Str):PySem.W.plainGet K C f=true:=c.pg
def NoAttr(K:PySem.W.Frag)(C:Addr)(f:Str):Prop:=PySem.W.findIn K (.ref C) f=some none
theorem NoAttr.taker{K:PySem.W.Frag}{C:Addr}{f:Str}(n:NoAttr K C f):PySem.W.takerIn K C f=some none:=by
 unfold PySem.W.takerIn
 rw[show PySem.W.findIn K (.ref C) f=some none from n]
 rfl
structure Meth(K:PySem.W.Frag)(C:Addr)(m:Str)(f:Addr):Prop where
 at_:PySem.W.findIn K (.ref C) m=some (some (.ref f))
 fn:PySem.W.isFn K (.ref f)=true
 kp:PySem.W.keepIn K (.ref f)=true
section
variable {X:Cx}{pins:List (Addr×Obj)}{σ:St}{H:Hp}{s:Shared}{a C dx:Addr}{fs:List (Str×V)}{f:Str}{v:V}{A:Around}{E:Value→Shared→Prop}
theorem zw1{b:Bool}{Q:Value→Shared→Prop}(I:Inv X pins σ H s)(e:H a=some (.ins C dx fs))(c:Cls X.K C)(n:NoAttr X.K C f)(l:fs.lookup f=some v)
  (h:∀u s',Inv X pins σ H s'→RelV v u→Q u s'):wpAny (model X.prog X.w) A (getAttr (.ref a) f b) Q E s:=by
 obtain⟨mA,O,r,_,_,_⟩:=zz7 I.hok e
 obtain⟨u,hu,ru⟩:=RelO.some_of (v:=v) (o:=mA f) (by rw[←l];exact r f)
 exact get_map I.kIn O (c.get f) c.hd n hu (yc9 ru) (h u _ (I.tok _) ru)
theorem zw0{m:Str}{g:Addr}{pl:Sem Bool}{Q:Value×List Value→Shared→Prop}(I:Inv X pins σ H s)(e:H a=some (.ins C dx fs))(c:Cls X.K C)(k:Meth X.K C m g)(l:fs.lookup m=none)
  (h:Q (.ref g,[.ref a]) s):wpAny (model X.prog X.w) A (getMethod (.ref a) m pl) Q E s:=by
 obtain⟨mA,O,r,_,_,_⟩:=zz7 I.hok e
 have hn:mA m=none:=RelO.none_of (by rw[←l];exact r m)
 exact get_meth I.kIn O (c.get m) k.at_ k.fn hn h
theorem zu7{y:V}{u:Value}{Q:Unit→Shared→Prop}(I:Inv X pins σ H s)(e:H a=some (.ins C dx fs))(c:Cls X.K C)(n:NoAttr X.K C f)(hl:fs.length<1000)(ry:RelV y u)
  (h:∀s',Inv X pins σ (upd H a (.ins C dx (zq6 f y fs))) s'→Q () s'):wpAny (model X.prog X.w) A (setAttr (.ref a) f u) Q E s:=by
 obtain⟨mA,O,r,wi,_,ho⟩:=zz7 I.hok e
 have hz:(fs.map (·.1)).length≤sizeLine:=by rw[List.length_map,sizeLine_eq];omega
 refine set_map I.kIn O c.sa c.po n.taker c.hd wi hz fun h' O' sb=>h _ ?_
 have hd:∃o,h'.get? dx=some o:=let ⟨o,_,_,e',_⟩:=O'.ns;⟨o,e'⟩
 refine I.write (x:=a) (e:=dx) (by rw[e];exact True.intro) (.inr ho) (fun b q hb z=>(sb.2 b hb).trans z) hd ?_
 refine⟨by rw[zb8 O.ne];exact ho,?_,O.ne,O'.obj,_,O'.ns,fun g=>?_,fun g hg=>?_⟩
 ·have:=zt2 f y fs;omega
 ·show RelO ((zq6 f y fs).lookup g) (if g=f then some u else mA g)
  rw[zt1]
  by_cases q:g=f
  ·rw[if_pos q,if_pos q];exact ry
  ·rw[if_neg q,if_neg q];exact r g
 ·by_cases q:g=f
  ·rw[q];exact(zt4 f y fs).1
  ·refine(zt4 f y fs).2 g (wi g fun z=>hg ?_)
   show(if g=f then some u else mA g)=none
   rw[if_neg q];exact z
theorem Inv.made(I:Inv X pins σ H s):Inv X pins σ (upd (upd H s.heap.objs.size (.own (s.heap.objs.size+1))) (s.heap.objs.size+1) (.ins C s.heap.objs.size []))
  { s with heap:=(s.heap.push PySem.W.emptyDict).push (PySem.W.instObj C s.heap.objs.size) }:=by
 have e1:(s.heap.push PySem.W.emptyDict).get? s.heap.objs.size=some PySem.W.emptyDict:=Heap.get?_push_size s.heap rfl
 have e2:((s.heap.push PySem.W.emptyDict).push (PySem.W.instObj C s.heap.objs.size)).get? (s.heap.objs.size+1)=some (PySem.W.instObj C s.heap.objs.size):=by
  have:=Heap.get?_push_size (s.heap.push PySem.W.emptyDict) (o:=PySem.W.instObj C s.heap.objs.size) rfl
  rwa [Heap.size_push] at this
 have e3:(s.heap.push PySem.W.emptyDict).Ns s.heap.objs.size (fun _=>none):=⟨PySem.W.emptyDict, #[],_,e1,rfl,(fun e he=>absurd he (by simp)),fun _=>rfl⟩
 have I1:=I.laid (a:=s.heap.objs.size) (o:=.own (s.heap.objs.size+1)) (h':=s.heap.push PySem.W.emptyDict) (t':=s.toks) (fun b u q=>Heap.get?_push_of_some _ q) (Nat.le_refl _) ⟨_,e1⟩
 refine I1.laid (a:=s.heap.objs.size+1) (o:=.ins C s.heap.objs.size []) (t':=s.toks) (fun b u q=>Heap.get?_push_of_some _ q) (Nat.le_of_eq (Heap.size_push _ _)) ?_
 have ne:s.heap.objs.size≠s.heap.objs.size+1:=Nat.ne_of_lt (Nat.lt_succ_self _)
 refine⟨by rw[zb8 ne,za2],Nat.zero_le _,ne,e2,fun _=>none,(Heap.Ns1.of_empty e3).at fun o q=>Heap.get?_push_of_some _ q,fun _=>True.intro,fun y hy=>absurd rfl hy⟩
theorem attr_of{prog:Program}{w:World}{env:Env}{e:Expr}{f:Str}{pos:Pos}{s:Shared}{Q:Value→Shared→Prop}(hb:attributeBase e f env (eval e env)=eval e env)
  (h:wpAny (model prog w) A (eval e env) (fun o s₁=>wpAny (model prog w) A (getAttr o f true) Q E s₁) E s):wpAny (model prog w) A (eval (.Attribute e f pos) env) Q E s:=
 Attribute_any_ h (by rw[arm_eval_Attribute,hb])
end
def tFld(K:PySem.W.Frag)(ta:TE)(f:Str):TE:=fun σ H Q=>ta σ H fun x H1=>∃a C dx fs v,x=.ref a∧H1 a=some (.ins C dx fs)∧Cls K C∧NoAttr K C f∧fs.lookup f=some v∧Q v H1
def sFld(K:PySem.W.Frag)(ta tv:TE)(f:Str):TS:=fun D σ H=>tv σ H fun y H1=>ta σ H1 fun x H2=>∃a C dx fs,x=.ref a∧H2 a=some (.ins C dx fs)∧Cls K C∧NoAttr K C f∧fs.length<1000∧
 D.nx σ (upd H2 a (.ins C dx (zq6 f y fs)))
def InOp(X:Cx)(op:Operator)(rd:V→V→Hp→VK→Prop):Prop:=
 ∀(pins:List (Addr×Obj)) (s:Shared) (σ:St) (H:Hp) (x y:V) (u v:Value) (Q:VK),Inv X pins σ H s→RelV x u→RelV y v→rd x y H Q→wpAny (model X.prog X.w) X.A (inplaceOp op u v) (EP X pins σ Q) X.xe s
def sFldAug(K:PySem.W.Frag)(ta tv:TE)(rd:V→V→Hp→VK→Prop)(f:Str):TS:=fun D σ H=>ta σ H fun x H1=>∃a C dx fs v,x=.ref a∧H1 a=some (.ins C dx fs)∧Cls K C∧NoAttr K C f∧fs.lookup f=some v∧
 tv σ H1 fun y H2=>rd v y H2 fun z H3=>∃dx' fs',H3 a=some (.ins C dx' fs')∧fs'.length<1000∧D.nx σ (upd H3 a (.ins C dx' (zq6 f z fs')))
section
variable {X:Cx}{o e value:Expr}{f:Str}{pos pos' tpos:Pos}{ta tv:TE}
theorem pe_fld(he:PE X e ta)(hb:attributeBase e f X.env (eval e X.env)=eval e X.env):PE X (.Attribute e f pos) (tFld X.K ta f):=by
 intro pins s σ H Q I h
 refine attr_of hb (thn (he pins s σ H _ I h) fun u s1 ⟨x,H1,I1,rx,a,C,dx,fs,v,ex,ea,c,n,l,q⟩=>?_)
 subst ex
 obtain rfl:u=Value.ref a:=rx
 exact zw1 I1 ea c n l fun u' s2 I2 ru=>⟨v,H1,I2,ru,q⟩
theorem ps_fld(ha:PE X o ta)(hv:PE X value tv)(hs:swapsWith value (some (.Attribute o f pos')) pos.line X.env=pure false):PS X (.Assign [.Attribute o f pos'] value pos) (sFld X.K ta tv f):=by
 intro pins s σ H D I h
 refine plainObj_wpAny_Assign_Attribute (thn (hv pins s σ H _ I h) fun u s1 ⟨y,H1,I1,ry,q⟩=>thn (ha pins s1 σ H1 _ I1 q) fun ov s2 ⟨x,H2,I2,rx,a,C,dx,fs,ex,ea,c,n,l,q2⟩=>?_) hs
 subst ex
 obtain rfl:ov=Value.ref a:=rx
 exact zu7 I2 ea c n l ry fun s3 I3=>⟨σ,_,I3,q2⟩
theorem yb6{op:Operator}{rd:V→V→Hp→VK→Prop}(ha:PE X o ta)(hv:PE X value tv)(hop:InOp X op rd):PS X (.AugAssign (.Attribute o f tpos) op value pos) (sFldAug X.K ta tv rd f):=by
 intro pins s σ H D I h
 refine wpAny_AugAssign_AttributeAny (thn (ha pins s σ H _ I h) fun ov s1 ⟨x,H1,I1,rx,a,C,dx,fs,v,ex,ea,c,n,l,q⟩=>?_)
 subst ex
 obtain rfl:ov=Value.ref a:=rx
 refine zw1 I1 ea c n l fun u s2 I2 ru=>thn (hv pins s2 σ H1 _ I2 q) fun w3 s3 ⟨y,H2,I3,ry,q3⟩=>thn (hop pins s3 σ H2 v y u w3 _ I3 ru ry q3) fun w4 s4 ⟨z,H3,I4,rz,dx',fs',ea',l',q4⟩=>?_
 exact zu7 I4 ea' c n l' rz fun s5 I5=>⟨σ,_,I5,q4⟩
def rAdd:V→V→Hp→VK→Prop:=fun x y H Q=>∃i j,x=.int i∧y=.int j∧Q (.int (i+j)) H
def rSub:V→V→Hp→VK→Prop:=fun x y H Q=>∃i j,x=.int i∧y=.int j∧Q (.int (i - j)) H
theorem yk2:InOp X .Add rAdd:=by
 rintro pins s σ H x y u v Q I rx ry ⟨i,j,rfl,rfl,q⟩
 obtain⟨t,rfl⟩:=(show ∃t,u=Value.int i t from rx)
 obtain⟨t',rfl⟩:=(show ∃t',v=Value.int j t' from ry)
 exact PyProof.Rows.iadd_int ⟨.int (i+j),H,I.tok _,⟨_,rfl⟩,q⟩
theorem in_sub:InOp X .Sub rSub:=by
 rintro pins s σ H x y u v Q I rx ry ⟨i,j,rfl,rfl,q⟩
 obtain⟨t,rfl⟩:=(show ∃t,u=Value.int i t from rx)
 obtain⟨t',rfl⟩:=(show ∃t',v=Value.int j t' from ry)
 exact PyProof.Rows.isub_int ⟨.int (i - j),H,I.tok _,⟨_,rfl⟩,q⟩
end
section
variable {X:Cx}{pins:List (Addr×Obj)}{σ:St}{H:Hp}{s:Shared}{A:Around}{E:Value→Shared→Prop}{Q:Value→Shared→Prop}{c:Value}{b:Bool}
inductive TyOf(K:PySem.W.Frag)(H:Hp):V→Value→Prop where
 |non:TyOf K H .non (.type "NoneType")
 |bl (x:Bool):TyOf K H (.bl x) (.type "bool")
 |int (i:Int):TyOf K H (.int i) (.type "int")
 |str (x:Str):TyOf K H (.str x) (.type "str")
 |flt (x:UInt64):TyOf K H (.flt x) (.type "float")
 |lst {a:Addr} {xs:List V} (e:H a=some (.lst xs)):TyOf K H (.ref a) (.type "list")
 |frz {a:Addr} {o:Obj} {xs:List V} (e:H a=some (.frz o (.lst xs))):TyOf K H (.ref a) (.type "list")
 |tup {a:Addr} {xs:List V} (e:H a=some (.tup xs)):TyOf K H (.ref a) (.type "tuple")
 |dK {a:Addr} {kvs:List (Key×V)} (e:H a=some (.dK kvs)):TyOf K H (.ref a) (.type "dict")
 |dT {a:Addr} {kvs:List (List Key×V)} (e:H a=some (.dT kvs)):TyOf K H (.ref a) (.type "dict")
 |ins {a C dx:Addr} {fs:List (Str×V)} (e:H a=some (.ins C dx fs)) (cl:Cls K C) (ha:PySem.W.findIn K (.ref C) "__class__"=some (some (.builtin "object.__class__")))
   (hn:PySem.W.specialIn K (.builtin "object.__class__") "__get__"=some (some (.builtin "getset_descriptor.__get__"))) (htk:PySem.W.takesIn K (.builtin "object.__class__")=some true)
   (hm:PySem.W.mroIn K C (.type "object")=some true):TyOf K H (.ref a) (.ref C)
theorem isinst_ok{x:V}{u t:Value}(I:Inv X pins σ H s)(rx:RelV x u)(ty:TyOf X.K H x t)(e:PySem.W.kitOne X.K t c=some b)(h:∀tk,Q (.bool b) { s with toks:=tk }):
  wpAny (model X.prog X.w) A (call (.builtin "isinstance") [u,c]) Q E s:=by
 cases ty with
 |non=>cases(show u=Value.none from rx);exact PySem.W.kia_one PySem.W.kitx_none I.kIn True.intro e (fun z=>nomatch z) h
 |bl y=>cases(show u=Value.bool y from rx);exact PySem.W.kia_one PySem.W.kitx_bool I.kIn True.intro e (fun z=>nomatch z) h
 |int i=>obtain⟨t,q⟩:=(show ∃t,u=Value.int i t from rx);cases q;exact PySem.W.kia_one PySem.W.kitx_int I.kIn True.intro e (fun z=>nomatch z) h
 |str y=>obtain⟨t,q⟩:=(show ∃t,u=Value.str y t from rx);cases q;exact PySem.W.kia_one PySem.W.kitx_str I.kIn True.intro e (fun z=>nomatch z) h
 |flt y=>obtain⟨t,q⟩:=(show ∃t,u=Value.float y t from rx);cases q;exact PySem.W.kia_one PySem.W.kitx_float I.kIn True.intro e (fun z=>nomatch z) h
 |@lst a xs ea=>
  cases(show u=Value.ref a from rx)
  obtain⟨_,_,n,_,h1⟩:=(show ObjOk X.prog X.w H s.heap a (.lst xs) from I.hok a _ ea)
  exact PySem.W.kia_one PySem.W.kitx_list I.kIn ⟨_,h1,rfl⟩ e (fun z=>nomatch z) h
 |@frz a ob xs ea=>
  cases(show u=Value.ref a from rx)
  obtain⟨_,_,_,n,_,h1⟩:=(show ObjOk X.prog X.w H s.heap a (.frz ob (.lst xs)) from I.hok a _ ea)
  exact PySem.W.kia_one PySem.W.kitx_list I.kIn ⟨_,h1,rfl⟩ e (fun z=>nomatch z) h
 |@tup a xs ea=>
  cases(show u=Value.ref a from rx)
  obtain⟨_,_,_,p⟩:=(show ObjOk X.prog X.w H s.heap a (.tup xs) from I.hok a _ ea)
  obtain⟨o,h1,h2,_⟩:=p
  exact PySem.W.kia_one PySem.W.kitx_tuple I.kIn ⟨o,h1,h2⟩ e (fun z=>nomatch z) h
 |@dK a kvs ea=>
  cases(show u=Value.ref a from rx)
  obtain⟨_,_,vs,_,p⟩:=(show ObjOk X.prog X.w H s.heap a (.dK kvs) from I.hok a _ ea)
  obtain⟨o,es,ep,h1,h2,_⟩:=p
  exact PySem.W.kia_one PySem.W.kitx_dict I.kIn ⟨o,h1,h2.1⟩ e (fun z=>nomatch z) h
 |@dT a kvs ea=>
  cases(show u=Value.ref a from rx)
  obtain⟨_,_,xs,_,o,es,ep,h1,h2,_⟩:=(show ObjOk X.prog X.w H s.heap a (.dT kvs) from I.hok a _ ea)
  exact PySem.W.kia_one PySem.W.kitx_dict I.kIn ⟨o,h1,h2.1⟩ e (fun z=>nomatch z) h
 |@ins a C dx fs ea cl ha hn htk hm=>
  cases(show u=Value.ref a from rx)
  obtain⟨mA,O,_⟩:=zz7 I.hok ea
  obtain⟨od,J,_⟩:=O.look
  exact PySem.W.kia_one (PySem.W.kitx_own (cl.get _) cl.hd ha hn htk hm) I.kIn J e (fun z=>nomatch z) h
end
structure Room(k:Nat)(A:Around):Prop where
 hd:A.handled=none
 dp:A.depth+3*k+5<recursionLimit
 un:A.units+16*k+200<cLine
theorem Room.mono{j k:Nat}{A:Around}(r:Room k A)(h:j≤k):Room j A:=⟨r.hd,by have:=r.dp;omega,by have:=r.un;omega⟩
theorem Room.deeper{k:Nat}{A:Around}(r:Room (k+1) A)(env:Env):Room k (A.deeper env):=
 ⟨r.hd,by have:=r.dp;show A.depth+1+3*k+5<_;omega,by have:=r.un;show A.units+3+16*k+200<_;omega⟩
theorem Room.in1{k:Nat}{A:Around}(r:Room (k+1) A):Room k A.in1:=
 ⟨r.hd,by have:=r.dp;show A.depth+3*k+5<_;omega,by have:=r.un;show A.units+1+16*k+200<_;omega⟩
theorem ym6{A:Around}{C:Addr}{us:List Value}{kw:List (Str×Value)}:(A.under (.builtin "type.__call__" ⟨.ref C::us,kw⟩)).depth=A.depth+1:=by
 first|rfl|simp[Around.under,Code.weight,Code.isCreation,Code.isGuard,Code.isCaller,Code.frames,Code.isFrame,guardIds]
theorem ym5{A:Around}{C:Addr}{us:List Value}{kw:List (Str×Value)}:(A.under (.builtin "type.__call__" ⟨.ref C::us,kw⟩)).units=A.units+1:=by
 first|rfl|simp[Around.under,Code.cUnits,Code.frames,Code.isFrame]
theorem Room.make{k:Nat}{A:Around}(r:Room (k+1) A)(C:Addr)(us:List Value)(kw:List (Str×Value)):Room k (A.under (.builtin "type.__call__" ⟨.ref C::us,kw⟩)):=
 ⟨r.hd,by have:=r.dp;rw[ym6];omega,by have:=r.un;rw[ym5];omega⟩
theorem Room.depth{k:Nat}{A:Around}(r:Room k A):A.depth<recursionLimit:=by have:=r.dp;omega
theorem Room.units{k:Nat}{A:Around}(r:Room k A):A.units+64<cLine:=by have:=r.un;omega
def tNil:TA:=fun _ H Q=>Q [] H
def zm8(ta:TE)(tr:TA):TA:=fun σ H Q=>ta σ H fun x H1=>tr σ H1 fun xs H2=>Q (x::xs) H2
section
variable {X:Cx}{e:Expr}{es:List Expr}{te:TE}{t:TA}{pos:Pos}
theorem pa_nil:PA X [] tNil:=fun _ _ _ _ H Q I h=>Calls.spliced_nil ⟨[],H,I,.nil,h⟩
theorem zl1(ha:PE X e te)(hr:PA X es t)(hs:starEach (e::es) X.env=(false,eval e X.env)::starEach es X.env:=by rfl):PA X (e::es) (zm8 te t):=by
 intro pos pins s σ H Q I h
 rw[hs]
 show wpAny _ _ (spliced ((false,eval e X.env)::backTo pos (starEach es X.env))) _ _ s
 refine Calls.spliced_cons (thn (ha pins s σ H _ I h) fun u s1 ⟨x,H1,I1,r1,q1⟩=>?_)
 exact thn (hr pos pins s1 σ H1 _ I1 q1) fun us s2 ⟨xs,H2,I2,r2,q2⟩=>⟨x::xs,H2,I2,.cons r1 r2,q2⟩
def tTup(t:TA):TE:=fun σ H Q=>t σ H fun xs H1=>xs.length≤sizeLine∧∀p,H1 p=none→Q (.ref p) (upd H1 p (.tup xs))
def tLst(t:TA):TE:=fun σ H Q=>t σ H fun xs H1=>xs.length≤sizeLine∧∀p,H1 p=none→Q (.ref p) (upd H1 p (.lst xs))
theorem pe_tup{x1}(h:PA X es t):PE X (.Tuple es x1 pos) (tTup t):=by
 intro pins s σ H Q I hq
 refine wpAny_Tuple_spliced (thn (h pos pins s σ H _ I hq) fun us s1 ⟨xs,H1,I1,r,z,q⟩=>⟨by rw[←r.length];exact z,?_⟩)
 have hf:H1 s1.heap.objs.size=none:=I1.hok.fresh (Nat.le_refl _)
 refine⟨.ref s1.heap.objs.size,upd H1 s1.heap.objs.size (.tup xs),I1.laid (t':=s1.toks) (fun b u e=>Heap.get?_push_of_some _ e) (Nat.le_refl _) ?_,rfl,q _ hf⟩
 exact⟨z,us,r,⟨_,Heap.get?_push_size _ rfl,rfl,_,rfl⟩⟩
theorem pe_lst(h:PA X es t):PE X (.List es pos) (tLst t):=by
 intro pins s σ H Q I hq
 refine wpAny_List_spliced (thn (h pos pins s σ H _ I hq) fun us s1 ⟨xs,H1,I1,r,z,q⟩=>⟨by rw[←r.length];exact z,?_⟩)
 have hf:H1 s1.heap.objs.size=none:=I1.hok.fresh (Nat.le_refl _)
 refine⟨.ref s1.heap.objs.size,upd H1 s1.heap.objs.size (.lst xs),I1.laid (t':=s1.toks) (fun b u e=>Heap.get?_push_of_some _ e) (Nat.le_refl _) ?_,rfl,q _ hf⟩
 exact⟨z,us,0,r,Heap.get?_push_size _ rfl⟩
end
abbrev Sp:=List V→Hp→VK→XK→Prop
abbrev CXT:=List Env→Hp→Shared→XK→Value→Shared→Prop
structure Env0(P:Program)(w:World)(K:PySem.W.Frag)(mg:Str→Option Value)(base:Heap)(A:Around)(outer:List Env)(s:Shared)(H:Hp):Prop where
 frames:A.frames=some outer
 mod:Mod K mg base
 bs:∀b o,base.get? b=some o→s.heap.get? b=some o∧H b=none
 bsz:base.objs.size≤s.heap.objs.size
 funs:s.heap.FunFrames base outer
 frf:∀b∈frs outer,H b=none
 hok:HOk P w H s.heap
 bare:AllBare s.gens
def CE(outer:List Env)(P:Program)(w:World)(H:Hp)(s:Shared)(Q:VK)(u:Value)(s':Shared):Prop:=
 ∃v H',s'.os=s.os∧AllBare s'.gens∧Un (frs outer) [] H H' s.heap s'.heap∧HOk P w H' s'.heap∧RelV v u∧Q v H'
def CR(CX:CXT)(outer:List Env)(P:Program)(w:World)(H:Hp)(s:Shared)(Q:VK)(E:XK)(r:Result)(s':Shared):Prop:=
 match r with
 |.ok (.ret u)=>CE outer P w H s Q u s'
 |.ok _=>False
 |.error e=>CX outer H s E e s'
structure FnOk(P:Program)(w:World)(K:PySem.W.Frag)(mg:Str→Option Value)(base:Heap)(CX:CXT)(k:Nat)(f:Addr)(fd:FuncData)(ps:List Str)(sp:Sp):Prop where
 len:∀vs H Q E,sp vs H Q E→vs.length=ps.length
 run:∀(A:Around) (outer:List Env) (s:Shared) (H:Hp) (args:Args) (us:List Value) (vs:List V) (Q:VK) (E:XK),Room k A→Env0 P w K mg base A outer s H→BindsTo s fd args (ps.zip us)→Vals vs us→sp vs H Q E→
  codeAny (model P w) A (.call (.ref f) args) (CR CX outer P w H s Q E) s
theorem FnOk.mono{P:Program}{w:World}{K:PySem.W.Frag}{mg:Str→Option Value}{base:Heap}{CX:CXT}{j k:Nat}{f:Addr}{fd:FuncData}{ps:List Str}{sp:Sp}(F:FnOk P w K mg base CX j f fd ps sp)(h:j≤k):
  FnOk P w K mg base CX k f fd ps sp:=⟨F.len,fun A outer s H args us vs Q E hr=>F.run A outer s H args us vs Q E (hr.mono h)⟩
theorem FnOk.imp{P:Program}{w:World}{K:PySem.W.Frag}{mg:Str→Option Value}{base:Heap}{CX:CXT}{k:Nat}{f:Addr}{fd:FuncData}{ps:List Str}{sp sp':Sp}(F:FnOk P w K mg base CX k f fd ps sp)
  (h:∀vs H Q E,sp' vs H Q E→sp vs H Q E):FnOk P w K mg base CX k f fd ps sp':=
 ⟨fun vs H Q E q=>F.len vs H Q E (h _ _ _ _ q),fun A outer s H args us vs Q E hr he hb hv hs=>F.run A outer s H args us vs Q E hr he hb hv (h _ _ _ _ hs)⟩
theorem Env0.make{P:Program}{w:World}{K:PySem.W.Frag}{mg:Str→Option Value}{base:Heap}{A:Around}{outer:List Env}{s:Shared}{H:Hp}(e:Env0 P w K mg base A outer s H)(C:Addr)(us:List Value)(kw:List (Str×Value)):
  Env0 P w K mg base (A.under (.builtin "type.__call__" ⟨.ref C::us,kw⟩)) outer s H:=⟨by first|exact e.frames|(simpa [Around.under,Code.envs,Code.isFrame,pushEnvs] using e.frames),e.mod,e.bs,e.bsz,e.funs,e.frf,e.hok,e.bare⟩
theorem Env0.in1{P:Program}{w:World}{K:PySem.W.Frag}{mg:Str→Option Value}{base:Heap}{A:Around}{outer:List Env}{s:Shared}{H:Hp}(e:Env0 P w K mg base A outer s H):
  Env0 P w K mg base A.in1 outer s H:=⟨e.frames,e.mod,e.bs,e.bsz,e.funs,e.frf,e.hok,e.bare⟩
section
variable {X:Cx}{pins:List (Addr×Obj)}{σ:St}{H:Hp}{s s':Shared}
theorem Inv.env0(I:Inv X pins σ H s):Env0 X.prog X.w X.K X.mg X.base X.A X.stack s H:=
 ⟨I.ok.frames,I.ok.mod,I.bs,Nat.le_trans I.ok.bsz I.sz,I.stack,I.stkFree,I.hok,I.bare⟩
theorem Inv.after{Q:VK}{u:Value}(I:Inv X pins σ H s)(h:CE X.stack X.prog X.w H s Q u s'):EP X pins σ Q u s':=by
 obtain⟨v,H',os,bare,un,hok,r,q⟩:=h
 obtain⟨hh,g,d,t,os'⟩:=s'
 obtain rfl:os'=s.os:=os
 exact⟨v,H',I.call (h':=hh) (g':=g) (d':=d) (t':=t) (ch:=[]) un hok bare (fun b z=>absurd z (by simp)),r,q⟩
end
def tCall(sp:Sp)(dvs:List V)(E:XK)(t:TA):TE:=fun σ H Q=>t σ H fun vs H1=>sp (vs++dvs) H1 Q E
def tMeth(C:Addr)(m:Str)(sp:Sp)(dvs:List V)(E:XK)(ta:TE)(t:TA):TE:=fun σ H Q=>ta σ H fun x H1=>∃a dx fs,x=.ref a∧H1 a=some (.ins C dx fs)∧fs.lookup m=none∧
 t σ H1 fun vs H2=>sp (x::(vs++dvs)) H2 Q E
def tMake(C:Addr)(sp:Sp)(dvs:List V)(E:XK)(t:TA):TE:=fun σ H Q=>t σ H fun vs H1=>∀x dx,H1 x=none→H1 dx=none→dx≠x→
 sp (.ref x::(vs++dvs)) (upd (upd H1 dx (.own x)) x (.ins C dx [])) (fun v H2=>v=.non∧Q (.ref x) H2) E
def Binds(K:PySem.W.Frag)(fd:FuncData)(ps:List Str)(ds:List Value):Prop:=
 ∀(s:Shared) (us:List Value),K.In s.heap→(us++ds).length=ps.length→BindsTo s fd ⟨us,[]⟩ (ps.zip (us++ds))
theorem Binds.all{K:PySem.W.Frag}{fd:FuncData}{ps:List Str}(h:∀us:List Value,us.length=ps.length→bindArgs fd ⟨us,[]⟩=pure (ps.zip us)):Binds K fd ps []:=fun s us _ hl=>by
 rw[List.append_nil] at hl ⊢
 exact .of_eq (h us hl)
def Passes(CX:CXT)(X:Cx)(E:XK):Prop:=∀(pins:List (Addr×Obj)) (σ:St) (H:Hp) (s:Shared) (e:Value) (s':Shared),Inv X pins σ H s→CX X.stack H s E e s'→X.xe e s'
section
variable {X:Cx}{CX:CXT}{k:Nat}{f C:Addr}{fd:FuncData}{ps:List Str}{sp:Sp}{dvs:List V}{ds:List Value}{E:XK}{x m:Str}{p pos apos:Pos}{e o:Expr}{es:List Expr}{ta:TE}{t:TA}
theorem run_fn{pins:List (Addr×Obj)}{σ:St}{H:Hp}{s:Shared}{Q:VK}{us:List Value}{vs:List V}(F:FnOk X.prog X.w X.K X.mg X.base CX k f fd ps sp)(hr:Room k X.A)(hb:Binds X.K fd ps ds)(hd:Vals dvs ds)(hx:Passes CX X E)
  (I:Inv X pins σ H s) (r:Vals vs us) (h:sp (vs++dvs) H Q E):wpAny (model X.prog X.w) X.A (call (.ref f) us) (EP X pins σ Q) X.xe s:=by
 have r2:Vals (vs++dvs) (us++ds):=r.append hd
 have hl:(us++ds).length=ps.length:=by rw[←r2.length];exact F.len _ _ _ _ h
 refine wpAny_call (codeAny_mono (F.run X.A X.stack s H ⟨us,[]⟩ (us++ds) (vs++dvs) Q E hr I.env0 (hb s us I.kIn hl) r2 h) fun r s' hq=>?_)
 cases r with
 |error e=>exact hx pins σ H s e s' I hq
 |ok fl=>
  cases fl with
  |ret u=>exact I.after hq
  |next=>exact False.elim hq
  |brk=>exact False.elim hq
  |cont=>exact False.elim hq
theorem pe_call(F:FnOk X.prog X.w X.K X.mg X.base CX k f fd ps sp)(hr:Room k X.A)(hg:Gl X x)(hm:X.mg x=some (.ref f))(hk:PySem.W.keepIn X.K (.ref f)=true)(hb:Binds X.K fd ps ds)(hd:Vals dvs ds)(hx:Passes CX X E)
  (ha:PA X (e::es) t) (hdb:(x==("__debug__":Str))=false:=by decide) (he:starEach (e::es) X.env=(false,eval e X.env)::starEach es X.env:=by rfl) (hpl:(backTo pos (starEach es X.env)).any (·.1)=false:=by rfl):
  PE X (.Call (.Name x p) (e::es) [] pos) (tCall sp dvs E t):=by
 intro pins s σ H Q I h
 refine wpAny_Call_Name_kw (zn6 I hg hm ?_ hdb)
 refine PySem.W.callWith_K (h₀:=X.base) I.ok.mod.kin hk (thn (ha pos pins s σ H _ I h) fun us s1 ⟨vs,H1,I1,r,q⟩=>⟨I1.kIn,?_⟩) he hpl
 exact run_fn F hr hb hd hx I1 r q
theorem pe_meth{pl:Sem Bool}(he:PE X o ta)(c:Cls X.K C)(hm:Meth X.K C m f)(F:FnOk X.prog X.w X.K X.mg X.base CX k f fd ps sp)(hr:Room k X.A)(hb:Binds X.K fd ps ds)(hd:Vals dvs ds)(hx:Passes CX X E)(ha:PA X (e::es) t)
  (hst:starEach (e::es) X.env=(false,eval e X.env)::starEach es X.env:=by rfl) (hpl:(backTo pos (starEach es X.env)).any (·.1)=false:=by rfl)
  (ht:eval (.Call (.Attribute o m apos) (e::es) [] pos) X.env=(do
   let ov ←eval o X.env
   standAt apos.atName
   let (f,first) ←holding [ov] (getMethod ov m pl)
   callWith pos f first (backTo pos (starEach (e::es) X.env)) (backToKw pos (keywordEach [] X.env))):=by rfl):
  PE X (.Call (.Attribute o m apos) (e::es) [] pos) (tMeth C m sp dvs E ta t):=by
 intro pins s σ H Q I h
 refine PySem.W.methodCall_KW (pl:=pl) (thn (he pins s σ H _ I h) fun u s1 ⟨x,H1,I1,rx,a,dx,fs,ex,ea,l,q⟩=>?_) ht
 subst ex
 obtain rfl:u=Value.ref a:=rx
 refine zw0 I1 ea c hm l ?_
 refine PySem.W.callWith_K (first:=[.ref a]) (h₀:=X.base) I.ok.mod.kin hm.kp (thn (ha pos pins s1 σ H1 _ I1 q) fun us s2 ⟨vs,H2,I2,r,q2⟩=>⟨I2.kIn,?_⟩) hst hpl
 exact run_fn (us:=.ref a::us) (vs:=.ref a::vs) F hr hb hd hx I2 (.cons rfl r) q2
theorem yj2{pl:Sem Bool}(he:PE X o ta)(c:Cls X.K C)(hm:Meth X.K C m f)(F:FnOk X.prog X.w X.K X.mg X.base CX k f fd ps sp)(hr:Room k X.A)(hb:Binds X.K fd ps ds)(hd:Vals dvs ds)(hx:Passes CX X E)
  (ht:eval (.Call (.Attribute o m apos) [] [] pos) X.env=(do
   let ov ←eval o X.env
   standAt apos.atName
   let (f,first) ←holding [ov] (getMethod ov m pl)
   callWith pos f first (backTo pos (starEach [] X.env)) (backToKw pos (keywordEach [] X.env))):=by rfl):
  PE X (.Call (.Attribute o m apos) [] [] pos) (tMeth C m sp dvs E ta tNil):=by
 intro pins s σ H Q I h
 refine PySem.W.methodCall_KW (pl:=pl) (thn (he pins s σ H _ I h) fun u s1 ⟨x,H1,I1,rx,a,dx,fs,ex,ea,l,q⟩=>?_) ht
 subst ex
 obtain rfl:u=Value.ref a:=rx
 refine zw0 I1 ea c hm l ?_
 exact PySem.W.callWith_K0 (first:=[.ref a]) I1.kIn hm.kp (run_fn (us:=[.ref a]) (vs:=[.ref a]) F hr hb hd hx I1 (.cons rfl .nil) q)
structure Mk(K:PySem.W.Frag)(C f:Addr):Prop where
 makes:PySem.W.makesIn K C=true
 init:PySem.W.findIn K (.ref C) "__init__"=some (some (.ref f))
 fn:PySem.W.isFn K (.ref f)=true
 kp:PySem.W.keepIn K (.ref C)=true
theorem run_make{pins:List (Addr×Obj)}{σ:St}{H:Hp}{s:Shared}{Q:VK}{us:List Value}{vs:List V}(M:Mk X.K C f)(F:FnOk X.prog X.w X.K X.mg X.base CX k f fd ps sp)(hr:Room (k+1) X.A)(hb:Binds X.K fd ps ds)(hd:Vals dvs ds)
  (hx:Passes CX X E) (I:Inv X pins σ H s) (r:Vals vs us)
  (h:∀x dx,H x=none→H dx=none→dx≠x→sp (.ref x::(vs++dvs)) (upd (upd H dx (.own x)) x (.ins C dx [])) (fun v H2=>v=.non∧Q (.ref x) H2) E):
  wpAny (model X.prog X.w) X.A (call (.ref C) us) (EP X pins σ Q) X.xe s:=by
 have hq:=h (s.heap.objs.size+1) s.heap.objs.size (I.hok.fresh (Nat.le_succ _)) (I.hok.fresh (Nat.le_refl _)) (Nat.ne_of_lt (Nat.lt_succ_self _))
 have I2:=Inv.made (C:=C) I
 have r2:Vals (V.ref (s.heap.objs.size+1)::(vs++dvs)) (Value.ref (s.heap.objs.size+1)::(us++ds)):=.cons rfl (r.append hd)
 have hl:(Value.ref (s.heap.objs.size+1)::us++ds).length=ps.length:=by
  have e:=r2.length
  rw[F.len _ _ _ _ hq] at e
  exact e.symm
 refine wpAny_call (make_map (f:=f) I.kIn M.makes M.init (beq_iff_eq.mp M.fn) (codeAny_mono (F.run _ X.stack _ _ ⟨Value.ref (s.heap.objs.size+1)::us,[]⟩ (Value.ref (s.heap.objs.size+1)::(us++ds)) _ _ E (hr.make C us [])
  (I2.env0.make C us []) (hb _ (Value.ref (s.heap.objs.size+1)::us) I2.kIn hl) r2 hq) fun r s' hq'=>?_))
 cases r with
 |error e=>exact hx pins σ _ _ e s' I2 hq'
 |ok fl=>
  cases fl with
  |ret u=>
   obtain⟨v,H',I3,rv,ev,q3⟩:=I2.after hq'
   subst ev
   exact⟨rv,⟨V.ref (s.heap.objs.size+1),H',I3,rfl,q3⟩⟩
  |next=>exact False.elim hq'
  |brk=>exact False.elim hq'
  |cont=>exact False.elim hq'
theorem pe_make(M:Mk X.K C f)(F:FnOk X.prog X.w X.K X.mg X.base CX k f fd ps sp)(hr:Room (k+1) X.A)(hg:Gl X x)(hm:X.mg x=some (.ref C))(hb:Binds X.K fd ps ds)(hd:Vals dvs ds)(hx:Passes CX X E)
  (ha:PA X (e::es) t) (hdb:(x==("__debug__":Str))=false:=by decide) (he:starEach (e::es) X.env=(false,eval e X.env)::starEach es X.env:=by rfl) (hpl:(backTo pos (starEach es X.env)).any (·.1)=false:=by rfl):
  PE X (.Call (.Name x p) (e::es) [] pos) (tMake C sp dvs E t):=by
 intro pins s σ H Q I h
 refine wpAny_Call_Name_kw (zn6 I hg hm ?_ hdb)
 refine PySem.W.callWith_K (h₀:=X.base) I.ok.mod.kin M.kp (thn (ha pos pins s σ H _ I h) fun us s1 ⟨vs,H1,I1,r,q⟩=>⟨I1.kIn,?_⟩) he hpl
 exact run_make M F hr hb hd hx I1 r q
end
structure FnScope(N P:List Str)(sc:Scope):Prop where
 kind:sc.kind=.function
 co:sc.isCoroutine=false
 gen:sc.isGenerator=false
 nd:N.Nodup
 pre:N.take P.length=P
 par:∀x∈P,sc.names.lookup x=some .local∨sc.names.lookup x=some .cell
 nofree:∀y∈sc.names,y.2≠.free
theorem ye1{kindOf:Str→Option NameKind}{x:Str}:∀ {binds:List (Str×Value)} {m:Str→Option Value},(∀v,(x,v)∉binds)→bindL kindOf binds m x=m x
 |[],_,_=>rfl
 |(n,v)::r,m,h=>by
  unfold bindL
  rw[ye1 fun w hw=>h w (List.mem_cons_of_mem _ hw)]
  split
  ·have:x≠n:=by rintro rfl;exact h v List.mem_cons_self
   simp[this]
  ·rfl
theorem ye3{kindOf:Str→Option NameKind}{x:Str}:∀ {binds:List (Str×Value)} {m:Str→Option Value},(∀v,(x,v)∉binds)→bindC kindOf binds m x=m x
 |[],_,_=>rfl
 |(n,v)::r,m,h=>by
  unfold bindC
  rw[ye3 fun w hw=>h w (List.mem_cons_of_mem _ hw)]
  split
  ·rfl
  ·have:x≠n:=by rintro rfl;exact h v List.mem_cons_self
   simp[this]
theorem ye2{kindOf:Str→Option NameKind}{x:Str}{v:Value}:∀ {P:List Str} {vs:List Value} {i:Nat} {m:Str→Option Value},P.Nodup→P[i]? = some x→vs[i]? = some v→kindOf x=some .local→
  bindL kindOf (P.zip vs) m x=some v
 |[],_,_,_,_,h,_,_=>by simp at h
 |_::_,[],_,_,_,_,h,_=>by simp at h
 |p::P,w::vs,0,m,nd,h1,h2,hk=>by
  simp at h1 h2;subst h1;subst h2
  show bindL kindOf ((p,w)::P.zip vs) m p=_
  unfold bindL
  rw[ye1 fun v hv=>(List.nodup_cons.mp nd).1 (List.of_mem_zip hv).1,if_pos hk]
  simp
 |p::P,w::vs,i+1,m,nd,h1,h2,hk=>by
  show bindL kindOf ((p,w)::P.zip vs) m x=_
  unfold bindL
  exact ye2 (i:=i) (List.nodup_cons.mp nd).2 (by simpa using h1) (by simpa using h2) hk
theorem ye4{kindOf:Str→Option NameKind}{x:Str}{v:Value}:∀ {P:List Str} {vs:List Value} {i:Nat} {m:Str→Option Value},P.Nodup→P[i]? = some x→vs[i]? = some v→kindOf x≠some .local→
  bindC kindOf (P.zip vs) m x=some v
 |[],_,_,_,_,h,_,_=>by simp at h
 |_::_,[],_,_,_,_,h,_=>by simp at h
 |p::P,w::vs,0,m,nd,h1,h2,hk=>by
  simp at h1 h2;subst h1;subst h2
  show bindC kindOf ((p,w)::P.zip vs) m p=_
  unfold bindC
  rw[ye3 fun v hv=>(List.nodup_cons.mp nd).1 (List.of_mem_zip hv).1,if_neg hk]
  simp
 |p::P,w::vs,i+1,m,nd,h1,h2,hk=>by
  show bindC kindOf ((p,w)::P.zip vs) m x=_
  unfold bindC
  exact ye4 (i:=i) (List.nodup_cons.mp nd).2 (by simpa using h1) (by simpa using h2) hk
def start(N:List Str)(vs:List V):St:=vs.map some++List.replicate (N.length - vs.length) none
def yd5(CX:CXT)(P:Program)(w:World)(K:PySem.W.Frag)(mg:Str→Option Value)(base:Heap)(N:List Str)(qual:Str)(scope:Scope)(f:Addr)(cd:Value)(A:Around)(outer:List Env)(s:Shared)(H:Hp)(E:XK):Cx where
 prog:=P
 w:=w
 K:=K
 mg:=mg
 base:=base
 A:=A.deeper (envOfC qual scope s.heap.objs.size f cd)
 N:=N
 s₀:=s
 H₀:=H
 env:=envOfC qual scope s.heap.objs.size f cd
 outer:=outer
 stack:=envOfC qual scope s.heap.objs.size f cd::outer
 ex:=[]
 calm:=true
 fn:=fun _=>true
 pn:=[]
 xe:=fun e s'=>wpAny (model P w) (A.deeper (envOfC qual scope s.heap.objs.size f cd)) (leaving (envOfC qual scope s.heap.objs.size f cd) e) (fun _ s''=>CX outer H s E e s'') (fun e' s''=>CX outer H s E e' s'') s'
theorem yk9{sc:Scope}{n:Nat}{x:Str}(h:sc.names.lookup x=some .cell):∃c,(cellsFrom n sc.names []).lookup x=some c:=by
 have q:=PySem.W.cellsFrom_some sc.names n [] (.inl h)
 exact Option.isSome_iff_exists.mp q
theorem inv_start{CX:CXT}{P:Program}{w:World}{K:PySem.W.Frag}{mg:Str→Option Value}{base:Heap}{N ps:List Str}{qual:Str}{scope:Scope}{f:Addr}{cd:Value}{A:Around}{outer:List Env}{s s1:Shared}{H:Hp}{E:XK}{us:List Value}{vs:List V}
  (S:FnScope N ps scope) (hd:A.handled=none) (e0:Env0 P w K mg base A outer s H) (hl:vs.length=ps.length) (r:Vals vs us)
  (x:InCallC s s.heap.objs.size (bindL (envOfC qual scope s.heap.objs.size f cd).kindOf (ps.zip us) fun _=>none) (cellsFrom (s.heap.objs.size+1) scope.names []) (bindC (envOfC qual scope s.heap.objs.size f cd).kindOf (ps.zip us) fun _=>none) s1):
  Inv (yd5 CX P w K mg base N qual scope f cd A outer s H E) [] (start N vs) H s1:=by
 have hpl:ps.length≤N.length:=by have:=congrArg List.length S.pre;rw[List.length_take] at this;omega
 obtain⟨h1,tk,rfl,hk⟩:=x.done
 have noA:∀b:Addr,b∉(yd5 CX P w K mg base N qual scope f cd A outer s H E).ex:=fun b z=>absurd (show b∈([]:List Addr) from z) (by simp)
 refine⟨⟨e0.mod,S.kind,rfl,rfl,Nat.le_refl _,fun y z c h1 h2=>?_,fun y hy=>?_,fun y c _ h=>?_,fun _=>hd,Around.frames_deeper e0.frames,.inr ⟨rfl,rfl⟩,fun b z=>absurd z (noA b),e0.bs,e0.bsz,fun b _ _=>noA b,fun b z=>absurd z (noA b),e0.funs,e0.frf⟩,
  rfl,e0.bare,Un.kept hk,⟨_,x.toInCall.ns,fun i y v h1 h2 h3=>?_⟩,fun y c h=>⟨_,x.cell y c h⟩,e0.hok.fresh (Nat.le_refl _),fun y c h=>?_,fun p hp=>absurd (show p∈([]:List (Addr×Obj)) from hp) (by simp),e0.hok.kept hk,?_⟩
 ·exact name_of_addr x.apart (PySem.mem_of_lookup h1) (PySem.mem_of_lookup h2)
 ·have hy:scope.names.lookup y=some .cell∨scope.names.lookup y=some .free:=hy
  rcases hy with hy|hy
  ·exact yk9 hy
  ·exact absurd rfl (S.nofree _ (PySem.mem_of_lookup hy))
 ·exact Nat.le_of_lt (x.above y c (PySem.mem_of_lookup h))
 ·have hi:i<vs.length:=by
   unfold start at h2
   by_cases hi:i<vs.length
   ·exact hi
   ·rw[List.getElem?_append_right (by simpa using hi)] at h2
    rw[List.getElem?_replicate] at h2
    split at h2<;>cases h2
  have ha:vs[i]? = some v:=by
   unfold start at h2
   rw[List.getElem?_append_left (by simpa using hi),List.getElem?_map] at h2
   cases e:vs[i]? with
   |none=>rw[e] at h2;cases h2
   |some a=>rw[e] at h2;cases h2;rfl
  obtain⟨u,hu,rv⟩:=r.get ha
  have hp:ps[i]? = some y:=by
   rw[←S.pre,List.getElem?_take_of_lt (by omega)];exact h1
  have ndP:ps.Nodup:=by rw[←S.pre];exact S.nd.sublist (List.take_sublist _ _)
  refine⟨u,rv,?_⟩
  rcases S.par y (List.mem_of_getElem? hp) with k|k
  ·exact .inl ⟨k,ye2 ndP hp hu k⟩
  ·obtain⟨c,e⟩:=yk9 (n:=s.heap.objs.size+1) k
   refine .inr ⟨.inl k,c,e,?_⟩
   have q:=x.cell y c e
   rw[ye4 ndP hp hu (by show scope.names.lookup y≠_;rw[k];decide)] at q
   exact q
 ·exact e0.hok.fresh (Nat.le_of_lt (x.above y c (PySem.mem_of_lookup h)))
 ·unfold start
  show _=N.length
  rw[List.length_append,List.length_map,List.length_replicate]
  omega
theorem fn_of{CX:CXT}{P:Program}{w:World}{K:PySem.W.Frag}{mg:Str→Option Value}{base:Heap}{k:Nat}{f:Addr}{name qual:Str}{params:Arguments}{body:List Stmt}{scope:Scope}{dV kV doc pm cdv ct oc:Value}{an od:Option Addr}
  {osl:Array (Option Value)} {N ps:List Str} {sp:Sp} (lk:K.lookup f=some ⟨oc,od,.func (PySem.W.fnOf name qual params body scope dV kV doc pm an cdv ct),osl⟩) (hcd:PySem.W.codeIn K cdv qual=true) (S:FnScope N ps scope)
  (len:∀vs H Q E,sp vs H Q E→vs.length=ps.length)
  (hbody:∀(A:Around) (outer:List Env) (s:Shared) (H:Hp) (vs:List V) (Q:VK) (E:XK),Room k (A.deeper (envOfC qual scope s.heap.objs.size f cdv))→sp vs H Q E→
   ∃t,PSs (yd5 CX P w K mg base N qual scope f cdv A outer s H E) body t∧t { nx:=fun _ H'=>Q .non H',rt:=Q } (start N vs) H):
  FnOk P w K mg base CX (k+1) f (PySem.W.fnOf name qual params body scope dV kV doc pm an cdv ct) ps sp:=by
 refine⟨len,fun A outer s H args us vs Q E hr e0 hb r hsp=>?_⟩
 have hl:=len _ _ _ _ hsp
 have KX:K.In s.heap:=e0.mod.kin.keeps fun b o e=>(e0.bs b o e).1
 have lim:s.heap.NoLimit:=e0.mod.nolimit.keeps fun b o e=>(e0.bs b o e).1
 have hkind:∀y∈ps.zip us,scope.names.lookup y.1=some .local∨(scope.names.lookup y.1=some .cell∧((cellsFrom (s.heap.objs.size+1) scope.names []).lookup y.1).isSome=true):=fun⟨n,v⟩ hy=>by
  rcases S.par n (List.of_mem_zip hy).1 with q|q
  ·exact .inl q
  ·exact .inr ⟨q,PySem.W.cellsFrom_some _ _ _ (.inl q)⟩
 refine codeAny_call_function hr.depth (KX _ _ lk) rfl S.co S.gen rfl (PySem.W.codeRec_of KX hcd) (hb _ _ _ _ ?_)
 refine wpAny_newFunctionEnv_cells S.kind hkind fun env he s1 x=>?_
 subst he
 refine⟨lim.keeps x.toInCall.keep,codeAny_func ?_⟩
 obtain⟨t,ht,hq⟩:=hbody A outer s H vs Q E (hr.deeper _) hsp
 have I:Inv (yd5 CX P w K mg base N qual scope f cdv A outer s H E) [] (start N vs) H s1:=inv_start S hr.hd e0 hl r x
 refine wpAny_mono (ht [] s1 (start N vs) H _ I hq) (fun fl s' hs=>?_) fun e s' hs=>hs
 have fin:∀ {σ':St} {H':Hp} {v:V} {u:Value},Inv (yd5 CX P w K mg base N qual scope f cdv A outer s H E) [] σ' H' s'→RelV v u→Q v H'→CE outer P w H s Q u s':=
  fun {σ' H' v u} J rv q=>⟨v,H',J.os,J.bare,J.base,J.hok,rv,q⟩
 cases fl with
 |ret u=>
  obtain⟨v,σ',H',J,rv,q⟩:=hs
  exact fin J rv q
 |next=>
  obtain⟨σ',H',J,q⟩:=hs
  exact fin (v:=V.non) (u:=Value.none) J rfl q
 |brk=>
  obtain⟨_,_,_,q⟩:=hs
  exact False.elim q
 |cont=>
  obtain⟨_,_,_,q⟩:=hs
  exact False.elim q
section
variable {X:Cx}{x:Str}{p pos:Pos}{e:Expr}{es:List Expr}{t:TA}{id T:String}{r:List V→Hp→VK→Prop}
def tCB(r:List V→Hp→VK→Prop)(t:TA):TE:=fun σ H Q=>t σ H fun vs H1=>r vs H1 Q
theorem yj5(hc:CallR X (.builtin id) r)(hg:Gl X x)(hm:X.mg x=none)(hv:bootBuiltins x=some (.builtin id))(ha:PA X (e::es) t)(hn:x≠"__name__":=by decide)(hdb:(x==("__debug__":Str))=false:=by decide)
  (he:starEach (e::es) X.env=(false,eval e X.env)::starEach es X.env:=by rfl) (hpl:(backTo pos (starEach es X.env)).any (·.1)=false:=by rfl):PE X (.Call (.Name x p) (e::es) [] pos) (tCB r t):=by
 intro pins s σ H Q I h
 refine wpAny_Call_Name_kw (yj9 I hg hm hv ?_ hn hdb)
 exact PyProof.Rows.callWith_builtin1 (thn (ha pos pins s σ H _ I h) fun us s1 ⟨vs,H1,I1,r1,q1⟩=>hc pins s1 σ H1 vs us Q I1 r1 q1) he hpl
theorem yc0(hc:CallR X (.type T) r)(hg:Gl X x)(hm:X.mg x=none)(hv:bootBuiltins x=some (.type T))(ha:PA X (e::es) t)(hn:x≠"__name__":=by decide)(hdb:(x==("__debug__":Str))=false:=by decide)
  (he:starEach (e::es) X.env=(false,eval e X.env)::starEach es X.env:=by rfl) (hpl:(backTo pos (starEach es X.env)).any (·.1)=false:=by rfl):PE X (.Call (.Name x p) (e::es) [] pos) (tCB r t):=by
 intro pins s σ H Q I h
 refine wpAny_Call_Name_kw (yj9 I hg hm hv ?_ hn hdb)
 exact PyProof.Rows.callWith_type1 (thn (ha pos pins s σ H _ I h) fun us s1 ⟨vs,H1,I1,r1,q1⟩=>hc pins s1 σ H1 vs us Q I1 r1 q1) he hpl
end
end L2
namespace HT
open PySem PyProof.Rows
section
open PySem.SeqAt
open PySem.AutoSeq1 (wpAny_loadPart')
open PySem.MeetsSeq PySem.MeetsSeq2 PySem.MeetsSeq3
end
section
variable {prog:Program}{w:World}{A:Around}{E:Value→Shared→Prop}{s:Shared}
def sIx(n d:Nat):Option Int→Nat
 |none=>d
 |some v=>if v<0 then(v+(n:Int)).toNat else min v.toNat n
end
end HT
namespace L2
open PySem PySem.Spec PyProof.Rows
abbrev TO:=St→Hp→(Option Int→Hp→Prop)→Prop
def PO(X:Cx)(e:Option Expr)(t:TO):Prop:=
 ∀(pins:List (Addr×Obj)) (s:Shared) (σ:St) (H:Hp) (Q:Option Int→Hp→Prop),Inv X pins σ H s→t σ H Q→
  wpAny (model X.prog X.w) X.A (evalPart e X.env) (fun u s'=>∃o H',Inv X pins σ H' s'∧IsPart u o∧Q o H') X.xe s
def tNoPart:TO:=fun _ H Q=>Q none H
def tPart(t:TE):TO:=fun σ H Q=>t σ H fun x H1=>∃i,x=.int i∧Q (some i) H1
section
variable {X:Cx}{e:Expr}{te:TE}{lo hi:Option Expr}{tl th:TO}{pos p2:Pos}
theorem zl8:PO X none tNoPart:=by
 intro pins s σ H Q I h
 rw[evalPart_none]
 exact wpAny_pure ⟨none,H,I,.none,h⟩
theorem po_some(h:PE X e te):PO X (some e) (tPart te):=by
 intro pins s σ H Q I hw
 rw[evalPart_some]
 refine thn (h pins s σ H _ I hw) fun u s1 ⟨x,H1,I1,r1,q1⟩=>?_
 obtain⟨i,rfl,q⟩:=q1
 obtain⟨t,rfl⟩:=r1
 exact⟨some i,H1,I1,.int i t,q⟩
def SlR(X:Cx)(r:V→Option Int→Option Int→Hp→VK→Prop):Prop:=
 ∀(pins:List (Addr×Obj)) (s:Shared) (σ:St) (H:Hp) (x:V) (v vl vu:Value) (lo hi:Option Int) (sl:Addr) (Q:VK),Inv X pins σ H s→RelV x v→s.heap.IsSliceOf sl vl vu .none→IsPart vl lo→IsPart vu hi→r x lo hi H Q→
  ∃T id,typeLookup (.type T) "__getitem__"=pure (some (.builtin id))∧s.TypeIs v T∧wpAny (model X.prog X.w) X.A (getItem v (.ref sl)) (EP X pins σ Q) X.xe s
theorem SlR.or{r r':V→Option Int→Option Int→Hp→VK→Prop}(h:SlR X r)(h':SlR X r'):SlR X (fun x lo hi H Q=>r x lo hi H Q∨r' x lo hi H Q):=by
 intro pins s σ H x v vl vu lo hi sl Q I rx hs pl pu q
 rcases q with q|q
 ·exact h pins s σ H x v vl vu lo hi sl Q I rx hs pl pu q
 ·exact h' pins s σ H x v vl vu lo hi sl Q I rx hs pl pu q
def tSl(r:V→Option Int→Option Int→Hp→VK→Prop)(te:TE)(tl th:TO):TE:=fun σ H Q=>te σ H fun x H1=>tl σ H1 fun l H2=>th σ H2 fun u H3=>r x l u H3 Q
theorem yj0{r:V→Option Int→Option Int→Hp→VK→Prop}(hr:SlR X r)(he:PE X e te)(hl:PO X lo tl)(hu:PO X hi th):PE X (.Subscript e (.Slice lo hi none p2) pos) (tSl r te tl th):=by
 intro pins s σ H Q I h
 refine Subscript_ (thn (he pins s σ H _ I h) fun v s1 ⟨x,H1,I1,r1,q1⟩=>?_)
 refine wpAny_Slice (thn (hl pins s1 σ H1 _ I1 q1) fun vl s2 ⟨l,H2,I2,pl,q2⟩=>thn (hu pins s2 σ H2 _ I2 q2) fun vu s3 ⟨u,H3,I3,pu,q3⟩=>?_)
 rw[evalPart_none]
 refine wpAny_pure ?_
 have I4:Inv X pins σ H3 { s3 with heap:=s3.heap.push { cls:=.type "slice",data:=.fields #[vl,vu,.none] } }:=I3.kept (t':=s3.toks) fun b ob q=>Heap.get?_push_of_some _ q
 obtain⟨T,id,hT,ht,hg⟩:=hr pins { s3 with heap:=s3.heap.push { cls:=.type "slice",data:=.fields #[vl,vu,.none] } } σ H3 x v vl vu l u s3.heap.objs.size Q I4 r1 (Heap.IsSliceOf.new ..) pl pu q3
 show wpAny (model X.prog X.w) X.A (subscriptTail e (.Slice lo hi none p2) v (.ref s3.heap.objs.size)) (EP X pins σ Q) X.xe { s3 with heap:=s3.heap.push { cls:=.type "slice",data:=.fields #[vl,vu,.none] } }
 exact tail_any (ops:=[.ref s3.heap.objs.size,v]) ht hT hg (by with_unfolding_all rfl)
def cutV(xs:List V)(lo hi:Option Int):List V:=(xs.drop (HT.sIx xs.length 0 lo)).take (HT.sIx xs.length xs.length hi - HT.sIx xs.length 0 lo)
theorem yg7(xs:List V)(lo hi:Option Int):(cutV xs lo hi).length≤xs.length:=by
 unfold cutV
 rw[List.length_take,List.length_drop]
 omega
end
def ixN(n:Nat)(i:Int):Option Nat:=if 0≤i then(if i<n then some i.toNat else none) else if -(n:Int)≤i then some (i+n).toNat else none
def atI{α:Type}(xs:List α)(i:Int):Option α:=(ixN xs.length i).bind fun j=>xs[j]?
theorem ixN_seq{n:Nat}{i:Int}{j:Nat}(h:ixN n i=some j):seqIndex? i n=some j∧j<n ∧ -(n:Int)≤i∧i<n:=by
 unfold ixN at h
 by_cases h0:0≤i
 ·rw[if_pos h0] at h
  by_cases h1:i<n
  ·rw[if_pos h1] at h
   have e:i.toNat=j:=Option.some.inj h
   exact⟨by rw[seqIndex_of h0 h1,e],by omega,by omega,h1⟩
  ·rw[if_neg h1] at h;cases h
 ·rw[if_neg h0] at h
  by_cases h1 : -(n:Int)≤i
  ·rw[if_pos h1] at h
   have e:(i+n).toNat=j:=Option.some.inj h
   exact⟨by rw[seqIndex_neg (by omega) h1,e],by omega,h1,by omega⟩
  ·rw[if_neg h1] at h;cases h
theorem yg8{α:Type}{xs:List α}{i:Int}{v:α}(h:atI xs i=some v):∃j,seqIndex? i xs.length=some j∧xs[j]? = some v∧j<xs.length ∧ -(xs.length:Int)≤i∧i<xs.length:=by
 unfold atI at h
 cases e:ixN xs.length i with
 |none=>rw[e] at h;cases h
 |some j=>
  rw[e] at h
  obtain⟨h1,h2,h3,h4⟩:=ixN_seq e
  exact⟨j,h1,h,h2,h3,h4⟩
theorem zh2{α:Type}{xs:List α}{j:Nat}{v:α}(h:xs[j]? = some v):atI xs (j:Int)=some v:=by
 have hj:j<xs.length:=(List.getElem?_eq_some_iff.mp h).1
 have e:ixN xs.length (j:Int)=some j:=by
  unfold ixN
  rw[if_pos (by omega),if_pos (by omega)];simp
 unfold atI;rw[e];exact h
theorem yl3{α:Type}(xs:List α)(v:α):atI (xs++[v]) (-1)=some v:=by
 have hl:(xs++[v]).length=xs.length+1:=by simp
 have e:ixN (xs++[v]).length (-1)=some xs.length:=by
  unfold ixN
  rw[hl,if_neg (by decide),if_pos (by omega)]
  congr 1
  omega
 unfold atI
 rw[e]
 show(xs++[v])[xs.length]? = some v
 simp
def PlainIx(b:Expr):Prop:=∀o i,subscripted b false o i=operate [o,i] (getItem o i)
def IxR(X:Cx)(r:R2):Prop:=
 ∀(value slice:Expr) (pins:List (Addr×Obj)) (s:Shared) (σ:St) (H:Hp) (x y:V) (v u:Value) (Q:VK),Inv X pins σ H s→RelV x v→RelV y u→r x y H Q→
  subscripted slice false v u=operate [v,u] (getItem v u)→wpAny (model X.prog X.w) X.A (subscriptTail value slice v u) (EP X pins σ Q) X.xe s
def MtR(X:Cx)(id:String)(r:V→List V→Hp→VK→Prop):Prop:=
 ∀(pins:List (Addr×Obj)) (s:Shared) (σ:St) (H:Hp) (x:V) (xs:List V) (v:Value) (us:List Value) (Q:VK),Inv X pins σ H s→RelV x v→Vals xs us→r x xs H Q→
  wpAny (model X.prog X.w) X.A (call (.builtin id) (v::us)) (EP X pins σ Q) X.xe s
section
variable {X:Cx}{a b:Expr}{ta tb:TE}{pos:Pos}
theorem IxR.or{r r':R2}(h:IxR X r)(h':IxR X r'):IxR X (fun x y H Q=>r x y H Q∨r' x y H Q):=by
 intro value slice pins s σ H x y v u Q I rx ry q hs
 rcases q with q|q
 ·exact h value slice pins s σ H x y v u Q I rx ry q hs
 ·exact h' value slice pins s σ H x y v u Q I rx ry q hs
theorem MtR.or{id:String}{r r':V→List V→Hp→VK→Prop}(h:MtR X id r)(h':MtR X id r'):MtR X id (fun x xs H Q=>r x xs H Q∨r' x xs H Q):=by
 intro pins s σ H x xs v us Q I rx rs q
 rcases q with q|q
 ·exact h pins s σ H x xs v us Q I rx rs q
 ·exact h' pins s σ H x xs v us Q I rx rs q
theorem pe_ix{r:R2}(hr:IxR X r)(ha:PE X a ta)(hb:PE X b tb)(hs:PlainIx b):PE X (.Subscript a b pos) (tOp r ta tb):=by
 intro pins s σ H Q I h
 exact Subscript_ (binT ha hb I h fun v u s2 x y H2 I2 rx ry q=>hr a b pins s2 σ H2 x y v u Q I2 rx ry q (hs _ _))
def rIxL(K:PySem.W.Frag):R2:=fun x y H Q=>∃p xs i v,x=.ref p∧y=.int i∧SqL K H p xs∧atI xs i=some v∧Q v H
def rIxT(K:PySem.W.Frag):R2:=fun x y H Q=>∃p xs i v,x=.ref p∧y=.int i∧SqT K H p xs∧atI xs i=some v∧Q v H
def rIxS:R2:=fun x y H Q=>∃z i c,x=.str z∧y=.int i∧z.length≤sizeLine∧atI z.cps.toList i=some c∧Q (.str ⟨#[c]⟩) H
theorem zi0:IxR X (rIxL X.K):=by
 intro value slice pins s σ H x y v u Q I rx ry h hs
 obtain⟨p,xs,i,z,rfl,rfl,hq,he,q⟩:=h
 cases rx
 obtain⟨t,rfl⟩:=ry
 obtain⟨its,r,pl,hz⟩:=I.list hq
 obtain⟨j,h1,h2,h3,h4,h5⟩:=yg8 he
 obtain⟨w,ew,rw'⟩:=r.get h2
 have hl:=r.length
 have hn:=zv6
 have fin:EP X pins σ Q w s:=⟨z,H,I,rw',q⟩
 by_cases h0:0≤i
 ·have hj:i.toNat=j:=by
   rw[seqIndex_of h0 h5] at h1
   exact Option.some.inj h1
  exact item_listR pl.isList h0 (by omega) (by rw[hj];simpa using ew) fin hs
 ·have hj:(i+(its.toArray.size:Int)).toNat=j:=by
   rw[seqIndex_neg (by omega) h4] at h1
   rw[List.size_toArray,←hl]
   exact Option.some.inj h1
  exact subscriptTail_builtinR (x:=w) pl.isList.typeIs slot_list_getitem.lookup
   (wpAny_getItem_list_neg (Q:=fun r s'=>r=w∧EP X pins σ Q r s') pl.isList (by omega) (by rw[List.size_toArray]<;>omega) (by omega) (by rw[hj];simpa using ew) ⟨rfl,fin⟩) hs
theorem zn2:IxR X (rIxT X.K):=by
 intro value slice pins s σ H x y v u Q I rx ry h hs
 obtain⟨p,xs,i,z,rfl,rfl,hq,he,q⟩:=h
 cases rx
 obtain⟨t,rfl⟩:=ry
 obtain⟨its,r,pl,hz⟩:=I.tuple hq
 obtain⟨j,h1,h2,h3,h4,h5⟩:=yg8 he
 obtain⟨w,ew,rw'⟩:=r.get h2
 have hl:=r.length
 have hn:=zv6
 have fin:EP X pins σ Q w s:=⟨z,H,I,rw',q⟩
 exact subscriptTail_builtinR (x:=w) pl.typeIs slot_tuple_getitem.lookup
  (getItem_tuple (j:=j) (Q:=fun r s'=>r=w∧EP X pins σ Q r s') pl (by omega) (by omega) (by rw[List.size_toArray,←hl];exact h1) (by simpa using ew) ⟨rfl,fin⟩) hs
theorem zt5:IxR X rIxS:=by
 intro value slice pins s σ H x y v u Q I rx ry h hs
 obtain⟨z,i,c,rfl,rfl,hz,he,q⟩:=h
 obtain⟨t,rfl⟩:=rx
 obtain⟨t',rfl⟩:=ry
 obtain⟨j,h1,h2,h3,h4,h5⟩:=yg8 he
 have hl:z.cps.toList.length=z.length:=by simp[Str.length]
 rw[hl] at h1 h4 h5
 have hn:=zv6
 exact tail_any (typeIs_str s z t) slot_str_getitem.lookup (getItem_str (c:=c) (by
  have e1:decide (i < -(2 ^ 63:Int))=false:=decide_eq_false (by omega)
  have e2:decide (i≥2 ^ 63)=false:=decide_eq_false (by omega)
  rw[e1,e2,Bool.or_false]) (by rw[h1];simpa using h2) ⟨.str ⟨#[c]⟩,H,I.tok _,⟨_,rfl⟩,q⟩) hs
theorem Inv.lst{pins:List (Addr×Obj)}{σ:St}{H:Hp}{s:Shared}{p:Addr}{xs:List V}(I:Inv X pins σ H s)(h:H p=some (.lst xs)):
  ∃(its:List Value) (n:Nat),Vals xs its∧s.heap.get? p=some { cls:=.type "list",data:=.seq its.toArray n }∧xs.length≤sizeLine:=by
 obtain⟨z,its,n,r,e⟩:=I.hok p _ h
 exact⟨its,n,r,e,z⟩
theorem yb0(lo hi:Option Int)(n:Nat):(sliceBounds lo hi none n).1=((HT.sIx n 0 lo:Nat):Int)∧(sliceBounds lo hi none n).2.1=((HT.sIx n n hi:Nat):Int)∧(sliceBounds lo hi none n).2.2=1:=by
 refine⟨?_,?_,rfl⟩
 ·cases lo with
  |none=>simp[sliceBounds,HT.sIx]
  |some i=>
   simp only[sliceBounds,HT.sIx,Option.getD_none,show(1:Int) > 0 by decide,if_true]
   by_cases h:i<0
   ·simp only[h,if_true]<;>omega
   ·simp only[h,if_false]<;>omega
 ·cases hi with
  |none=>simp[sliceBounds,HT.sIx]
  |some i=>
   simp only[sliceBounds,HT.sIx,Option.getD_none,show(1:Int) > 0 by decide,if_true]
   by_cases h:i<0
   ·simp only[h,if_true]<;>omega
   ·simp only[h,if_false]<;>omega
theorem zx2(its:List Value)(lo hi:Option Int):slicePick its.toArray lo hi none=((its.drop (HT.sIx its.length 0 lo)).take (HT.sIx its.length its.length hi - HT.sIx its.length 0 lo)).toArray:=by
 obtain⟨h1,h2,h3⟩:=yb0 lo hi its.toArray.size
 unfold slicePick
 rw[h1,h2,h3]
 simp only[sliceRange_one,pick_run,List.size_toArray]<;>rfl
def rSlL(K:PySem.W.Frag):V→Option Int→Option Int→Hp→VK→Prop:=fun x lo hi H Q=>∃a xs,x=.ref a∧SqL K H a xs∧∀p,H p=none→Q (.ref p) (upd H p (.lst (cutV xs lo hi)))
theorem sl_list:SlR X (rSlL X.K):=by
 intro pins s σ H x v vl vu lo hi sl Q I rx hs pl pu h
 obtain⟨a,xs,rfl,hx,q⟩:=h
 cases rx
 obtain⟨its,r,ht,hz⟩:=I.list hx
 have hlen:=r.length
 refine⟨"list",_,slot_list_getitem.lookup,ht.isList.typeIs,?_⟩
 refine wpAny_getItem_list_slice ht.isList hs pl pu .none (by simp) ?_ (by rw[List.size_toArray]<;>omega)
 rw[zx2,←hlen]
 refine⟨.ref s.heap.objs.size,_,I.laid (t':=s.toks) (o:=.lst (cutV xs lo hi)) (fun b ob q=>Heap.get?_push_of_some _ q) (Nat.le_refl _) ?_,rfl,q _ (I.hok.fresh (Nat.le_refl _))⟩
 exact⟨Nat.le_trans (yg7 xs lo hi) hz,_,0,(r.drop (HT.sIx xs.length 0 lo)).take (HT.sIx xs.length xs.length hi - HT.sIx xs.length 0 lo),Heap.get?_push_size _ rfl⟩
def zu2:V→Bool
 |.non=>true
 |.bl _=>true
 |.int _=>true
 |.str _=>true
 |_=>false
def eqV:V→V→Bool
 |.non,.non=>true
 |.bl a,.bl b=>a==b
 |.bl a,.int b=>(if a then 1 else 0)==b
 |.int a,.bl b=>a==(if b then 1 else 0)
 |.int a,.int b=>a==b
 |.str a,.str b=>a==b
 |_,_=>false
theorem eqAt_V{A:Around}{s:Shared}{y x:V}{u v:Value}(ry:RelV y u)(rx:RelV x v)(fy:zu2 y=true)(fx:zu2 x=true):SeqAt.EqAt A s u v (eqV y x):=by
 cases y with
 |non=>
  cases ry
  cases x with
  |non=>cases rx;exact SeqAt.EqAt.same _
  |bl b=>cases rx;exact SeqAt.EqAt.none_bool b
  |int b=>obtain⟨t,rfl⟩:=rx;exact SeqAt.EqAt.none_int b t
  |str b=>obtain⟨t,rfl⟩:=rx;exact SeqAt.EqAt.none_str b t
  |_=>exact absurd (show false=true from fx) Bool.false_ne_true
 |bl a=>
  cases ry
  cases x with
  |non=>cases rx;exact SeqAt.EqAt.bool_none a
  |bl b=>cases rx;exact SeqAt.EqAt.bool_bool a b
  |int b=>obtain⟨t,rfl⟩:=rx;exact SeqAt.EqAt.bool_int a b t
  |str b=>obtain⟨t,rfl⟩:=rx;exact SeqAt.EqAt.bool_str a b t
  |_=>exact absurd (show false=true from fx) Bool.false_ne_true
 |int a=>
  obtain⟨t',rfl⟩:=ry
  cases x with
  |non=>cases rx;exact SeqAt.EqAt.int_none a t'
  |bl b=>cases rx;exact SeqAt.EqAt.int_bool a t' b
  |int b=>obtain⟨t,rfl⟩:=rx;exact SeqAt.EqAt.int_int a t' b t
  |str b=>obtain⟨t,rfl⟩:=rx;exact SeqAt.EqAt.int_str a t' b t
  |_=>exact absurd (show false=true from fx) Bool.false_ne_true
 |str a=>
  obtain⟨t',rfl⟩:=ry
  cases x with
  |non=>cases rx;exact SeqAt.EqAt.str_none a t'
  |bl b=>cases rx;exact SeqAt.EqAt.str_bool a t' b
  |int b=>obtain⟨t,rfl⟩:=rx;exact SeqAt.EqAt.str_int a t' b t
  |str b=>obtain⟨t,rfl⟩:=rx;exact SeqAt.EqAt.str_str a t' b t
  |_=>exact absurd (show false=true from fx) Bool.false_ne_true
 |_=>exact absurd (show false=true from fy) Bool.false_ne_true
def eqU(x:V)(u:Value):Bool:=match u with
 |.none=>eqV .non x
 |.bool b=>eqV (.bl b) x
 |.int i _=>eqV (.int i) x
 |.str z _=>eqV (.str z) x
 |_=>false
theorem eqU_of{x y:V}{u:Value}(r:RelV y u)(f:zu2 y=true):eqU x u=eqV y x:=by
 cases y with
 |non=>cases r;rfl
 |bl b=>cases r;rfl
 |int i=>obtain⟨t,rfl⟩:=r;rfl
 |str z=>obtain⟨t,rfl⟩:=r;rfl
 |_=>exact absurd (show false=true from f) Bool.false_ne_true
theorem yg9{x:V}:∀ {xs:List V} {us:List Value},Vals xs us→xs.all zu2=true→us.any (eqU x)=xs.any fun y=>eqV y x
 |_,_,.nil,_=>rfl
 |y::xs,u::us,.cons r t,f=>by
  rw[List.all_cons,Bool.and_eq_true] at f
  rw[List.any_cons,List.any_cons,eqU_of r f.1,yg9 t f.2]
theorem zz4{A:Around}{s:Shared}{x:V}{v:Value}(rx:RelV x v)(fx:zu2 x=true):∀ {xs:List V} {us:List Value},Vals xs us→xs.all zu2=true→∀u∈us,SeqAt.EqAt A s u v (eqU x u)
 |_,_,.nil,_=>fun u hu=>by cases hu
 |y::xs,u::us,.cons r t,f=>fun u' hu=>by
  rw[List.all_cons,Bool.and_eq_true] at f
  rcases List.mem_cons.mp hu with rfl|hu
  ·rw[eqU_of r f.1];exact eqAt_V r rx f.1 fx
  ·exact zz4 rx fx t f.2 u' hu
def inV(x:V)(xs:List V):Bool:=xs.any fun y=>eqV y x
def rIn(K:PySem.W.Frag)(neg:Bool):R2:=fun x y H Q=>∃p xs,y=.ref p∧(SqL K H p xs∨SqT K H p xs)∧zu2 x=true∧xs.all zu2=true∧Q (.bl (if neg then !inV x xs else inV x xs)) H
theorem zo1:OpR X (compareOp .In) (rIn X.K false):=by
 intro pins s σ H x y v u Q I rx ry h
 obtain⟨p,xs,rfl,hq,fx,fs,q⟩:=h
 cases ry
 rcases hq with hq|hq
 ·obtain⟨its,r,pl,hz⟩:=I.list hq
  refine SeqAt.in_listAt (eqU x) pl.isList (fun w hw=>zz4 rx fx r fs w (by simpa using hw)) ⟨.bl _,H,I,rfl,?_⟩
  rw[show its.toArray.any (eqU x)=its.any (eqU x) by simp,yg9 r fs]
  exact q
 ·obtain⟨its,r,pl,hz⟩:=I.tuple hq
  refine SeqAt.in_tupleAt (eqU x) pl (fun w hw=>zz4 rx fx r fs w (by simpa using hw)) ⟨.bl _,H,I,rfl,?_⟩
  rw[show its.toArray.any (eqU x)=its.any (eqU x) by simp,yg9 r fs]
  exact q
theorem zm4:CallR X (.builtin "len") (fun xs H Q=>∃p ys,xs=[.ref p]∧(SqL X.K H p ys∨SqT X.K H p ys)∧Q (.int ys.length) H):=by
 intro pins s σ H xs us Q I r h
 obtain⟨p,ys,rfl,hq,q⟩:=h
 obtain⟨u,rfl,rx⟩:=zw8 r
 cases rx
 have hn:=zv6
 rcases hq with hq|hq
 ·obtain⟨its,r',pl,hz⟩:=I.list hq
  have hlen:=r'.length
  exact Calls.call_len_list pl.isList (by simp only[List.size_toArray]<;>omega) ⟨.int ys.length,H,I.tok _,⟨s.toks+1,by rw[List.size_toArray,hlen]⟩,q⟩
 ·obtain⟨its,r',pl,hz⟩:=I.tuple hq
  have hlen:=r'.length
  exact len_tuple pl (by simp only[List.size_toArray]<;>omega) ⟨.int ys.length,H,I.tok _,⟨s.toks+1,by rw[List.size_toArray,hlen]⟩,q⟩
theorem zg4:CallR X (.builtin "len") (fun xs H Q=>∃z,xs=[.str z]∧z.length≤sizeLine∧Q (.int z.length) H):=by
 intro pins s σ H xs us Q I r h
 obtain⟨z,rfl,hz,q⟩:=h
 obtain⟨u,rfl,t,rfl⟩:=zw8 r
 have hn:=zv6
 exact len_str (by omega) ⟨.int z.length,H,I.tok _,⟨_,rfl⟩,q⟩
theorem CallR.or{f:Value}{r r':List V→Hp→VK→Prop}(h:CallR X f r)(h':CallR X f r'):CallR X f (fun xs H Q=>r xs H Q∨r' xs H Q):=by
 intro pins s σ H xs us Q I rs q
 rcases q with q|q
 ·exact h pins s σ H xs us Q I rs q
 ·exact h' pins s σ H xs us Q I rs q
theorem zl4:CallR X (.type "tuple") (fun xs H Q=>∃p ys,xs=[.ref p]∧((SqL X.K H p ys∧∀l,H l=none→Q (.ref l) (upd H l (.tup ys)))∨(SqT X.K H p ys∧Q (.ref p) H))):=by
 intro pins s σ H xs us Q I r h
 obtain⟨p,ys,rfl,h⟩:=h
 obtain⟨u,rfl,rx⟩:=zw8 r
 cases rx
 rcases h with⟨hq,q⟩|⟨hq,q⟩
 ·obtain⟨its,r',pl,hz⟩:=I.list hq
  have hlen:=r'.length
  refine call_tuple_list pl.isList (fun h' kp=>?_) (by simp only[List.size_toArray]<;>omega)
  have I1:Inv X pins σ H { s with heap:=h' }:=I.kept (t':=s.toks) kp
  have I2:Inv X pins σ (upd H h'.objs.size (.tup ys)) { s with heap:=h'.push { cls:=.type "tuple",data:=.seq its.toArray } }:=
   I1.laid (t':=s.toks) (fun b o e=>Heap.get?_push_of_some _ e) (Nat.le_refl _) (show ObjOk X.prog X.w _ _ _ (.tup ys) from⟨hz,its,r',IsTup.new _ _⟩)
  exact⟨.ref h'.objs.size,_,I2,rfl,q _ (I1.hok.fresh (Nat.le_refl _))⟩
 ·obtain⟨its,r',pl,hz⟩:=I.tuple hq
  exact call_tuple_same pl ⟨.ref p,H,I,rfl,q⟩
def tyV(K:PySem.W.Frag)(T:String)(x:V)(H:Hp):Prop:=match x with
 |.str _=>T="str"
 |.int _=>T="int"
 |.ref p=>(T="list"∧∃xs,SqL K H p xs)∨(T="tuple"∧∃o,K.lookup p=some o∧o.cls=.type "tuple"∧o.dict=none)∨
   (T="dict"∧((∃kvs,H p=some (.dK kvs))∨∃kvs,H p=some (.dT kvs)))∨(T="set"∧∃S n,H p=some (.set S n))
 |_=>False
theorem tyV_is{pins:List (Addr×Obj)}{σ:St}{H:Hp}{s:Shared}{T:String}{x:V}{v:Value}(I:Inv X pins σ H s)(r:RelV x v)(ty:tyV X.K T x H):
  s.TypeIs v T∧∀a,v=.ref a→∃ob,s.heap.get? a=some ob∧ob.dict=none:=by
 cases x with
 |str z=>
  obtain⟨t,rfl⟩:=r
  cases(show T="str" from ty)
  exact⟨typeIs_str s z t,fun _ e=>nomatch e⟩
 |int i=>
  obtain⟨t,rfl⟩:=r
  cases(show T="int" from ty)
  exact⟨typeIs_int s i t,fun _ e=>nomatch e⟩
 |ref p=>
  cases r
  rcases ty with⟨rfl,xs,hq⟩|⟨rfl,o,hk,hc,hd⟩|⟨rfl,hk⟩|⟨rfl,S,n,hk⟩
  ·obtain⟨its,_,pl,_⟩:=I.list hq
   refine⟨pl.isList.typeIs,fun a e=>?_⟩
   cases e
   obtain⟨o,n,e,c,hd,_⟩:=pl
   exact⟨o,e,hd⟩
  ·refine⟨⟨o,I.kIn p o hk,hc⟩,fun a e=>?_⟩
   cases e
   exact⟨o,I.kIn _ o hk,hd⟩
  ·have z:∃o,s.heap.get? p=some o∧o.ExactDict:=by
    rcases hk with⟨kvs,hk⟩|⟨kvs,hk⟩
    ·obtain⟨_,_,_,_,o,_,_,e,ex,_⟩:=I.hok p _ hk
     exact⟨o,e,ex⟩
    ·obtain⟨_,_,_,_,o,_,_,e,ex,_⟩:=I.hok p _ hk
     exact⟨o,e,ex⟩
   obtain⟨o,e,ex⟩:=z
   refine⟨⟨o,e,ex.1⟩,fun a e2=>?_⟩
   cases e2
   exact⟨o,e,ex.2.1⟩
  ·obtain⟨o,_,_,_,e,ex,_⟩:=I.hok p _ hk
   refine⟨⟨o,e,ex.1⟩,fun a e2=>?_⟩
   cases e2
   exact⟨o,e,ex.2.1⟩
 |_=>exact False.elim ty
def tBM(K:PySem.W.Frag)(T:String)(r:V→List V→Hp→VK→Prop)(to:TE)(t:TA):TE:=fun σ H Q=>to σ H fun x H1=>tyV K T x H1∧t σ H1 fun xs H2=>r x xs H2 Q
variable {o e:Expr}{es:List Expr}{to:TE}{t:TA}{name:Str}{apos cpos:Pos}{T id:String}{r:V→List V→Hp→VK→Prop}
theorem pe_bm(pa:PlainAttrs T)(slot:Slot T name id)(hty:typeOf (.builtin id)=pure (.type "method_descriptor"))(hm:MtR X id r)(ho:PE X o to)(ha:PA X (e::es) t)
  (hbase:attributeBase o name X.env (eval o X.env)=eval o X.env:=by rfl)
  (hfew:((backTo cpos (starEach (e::es) X.env)).all (fun x => !x.1)&&(backToKw cpos (keywordEach [] X.env)).all (fun x=>x.1.isSome)
   && decide ((e::es).length+([]:List Keyword).length+(if([]:List Keyword).isEmpty then 0 else 1)<30))=true:=by rfl)
  (hline:(apos.endLine==cpos.line)=true:=by rfl) (hs:starEach (e::es) X.env=(false,eval e X.env)::starEach es X.env:=by rfl) (hplain:(backTo cpos (starEach es X.env)).any (·.1)=false:=by rfl):
  PE X (.Call (.Attribute o name apos) (e::es) [] cpos) (tBM X.K T r to t):=by
 intro pins s σ H Q I h
 refine wpAny_Call_method_late hbase hfew hline rfl (thn (ho pins s σ H _ I h) fun v s1 ⟨x,H1,I1,r1,ty,q1⟩=>?_)
 obtain⟨h1,h2⟩:=tyV_is I1 r1 ty
 refine⟨T,id,pa,slot,hty,h1,h2,?_⟩
 have hA:=ha cpos pins s1 σ H1 _ I1 q1
 rw[hs] at hA ⊢
 refine Calls.callWith_builtin (by show(false||(backTo cpos (starEach es X.env)).any (·.1))=false;rw[hplain]<;>rfl) (Calls.evalArgs_plain ?_)
 exact thn hA fun us s2 ⟨vs,H2,I2,r2,q2⟩=>hm pins s2 σ H2 x vs v us Q I2 r1 r2 q2
end
def MtM(X:Cx)(id:String)(r:V→List V→Hp→VK→Prop):Prop:=
 ∀(pins:List (Addr×Obj)) (s:Shared) (σ:St) (H:Hp) (x:V) (xs:List V) (v:Value) (us:List Value) (Q:VK),Inv X pins σ H s→RelV x v→Vals xs us→r x xs H Q→
  wpAny (model X.prog X.w) X.A (call (.builtin id) (v::us)) (EP X pins σ Q) X.xe s
theorem Vals.one:∀ {x:V} {us:List Value},Vals [x] us→∃u,us=[u]∧RelV x u
 |_,_,.cons r .nil=>⟨_,rfl,r⟩
theorem Vals.two:∀ {x y:V} {us:List Value},Vals [x,y] us→∃u v,us=[u,v]∧RelV x u∧RelV y v
 |_,_,_,.cons r (.cons q .nil)=>⟨_,_,rfl,r,q⟩
theorem Vals.zero:∀ {us:List Value},Vals [] us→us=[]
 |_,.nil=>rfl
theorem Vals.reverse{xs:List V}{us:List Value}(h:Vals xs us):Vals xs.reverse us.reverse:=by
 induction h with
 |nil=>exact .nil
 |cons r t ih=>rw[List.reverse_cons,List.reverse_cons];exact Vals.append ih (.cons r .nil)
theorem Vals.rep{xs:List V}{us:List Value}(h:Vals xs us):∀k:Nat,Vals (List.replicate k xs).flatten (List.replicate k us).flatten
 |0=>.nil
 |k+1=>by
  rw[List.replicate_succ,List.replicate_succ,List.flatten_cons,List.flatten_cons]
  exact Vals.append h (Vals.rep h k)
theorem yd1(its:List Value):∀(k:Nat) (acc:List Value),
  List.foldl (fun x1 x2=>x1++x2) acc.toArray (List.replicate k its.toArray)=(acc++(List.replicate k its).flatten).toArray
 |0,acc=>by simp
 |k+1,acc=>by
  have e:acc.toArray++its.toArray=(acc++its).toArray:=by simp
  have e2:(acc++its)++(List.replicate k its).flatten=acc++(List.replicate (k+1) its).flatten:=by
   rw[List.replicate_succ,List.flatten_cons,List.append_assoc]
  rw[←e2,←yd1 its k (acc++its),←e,List.replicate_succ,List.foldl_cons]
section
variable {X:Cx}{pins:List (Addr×Obj)}{σ:St}{H:Hp}{s:Shared}{l b:Addr}{xs ys zs:List V}
theorem Inv.lset{its its':List Value}{n:Nat}{f:Array Value→Array Value}{t':Nat}(I:Inv X pins σ H s)(hH:H l=some (.lst xs))
  (e:s.heap.get? l=some { cls:=.type "list",data:=.seq its.toArray n }) (hf:f its.toArray=its'.toArray) (hv:Vals ys its') (hz:ys.length≤sizeLine):
  Inv X pins σ (upd H l (.lst ys)) { s with heap:=s.heap.update l (Obj.mapSeq f),toks:=t' }:=by
 have q:=PySem.IsL.update e f
 rw[hf] at q
 refine I.write (x:=l) (e:=l) (by rw[hH];exact trivial) (.inl rfl) (fun b' u hb hu=>(Heap.get?_update_other s.heap (Obj.mapSeq f) (Ne.symm hb)).trans hu) ⟨_,q⟩ ?_
 exact⟨hz,its',_,hv,q⟩
theorem Inv.lnew{its:List Value}{t':Nat}(I:Inv X pins σ H s)(hv:Vals ys its)(hz:ys.length≤sizeLine):
  Inv X pins σ (upd H s.heap.objs.size (.lst ys)) { s with heap:=s.heap.push { cls:=.type "list",data:=.seq its.toArray },toks:=t' }:=
 I.laid (fun _ _ q=>Heap.get?_push_of_some _ q) (Nat.le_refl _) ⟨hz,its,0,hv,Heap.get?_push_size _ rfl⟩
theorem Inv.fresh(I:Inv X pins σ H s):H s.heap.objs.size=none:=I.hok.fresh (Nat.le_refl _)
theorem Inv.lstM(I:Inv X pins σ H s)(hH:H l=some (.lst xs)):xs.length≤sizeLine∧∃(its:List Value) (n:Nat),Vals xs its∧xs.length=its.length∧s.heap.get? l=some { cls:=.type "list",data:=.seq its.toArray n }:=by
 obtain⟨z,its,n,r,e⟩:=I.hok l _ hH
 exact⟨z,its,n,r,r.length,e⟩
theorem notLongL{n:Nat}(h:n≤sizeLine):Builtin.List.listTooLong n=false:=by
 unfold Builtin.List.listTooLong
 exact decide_eq_false (by omega)
end
section
variable {X:Cx}
def rAppend:V→List V→Hp→VK→Prop:=fun x vs H Q=>∃l xs y,x=.ref l∧vs=[y]∧H l=some (.lst xs)∧xs.length<sizeLine∧Q .non (upd H l (.lst (xs++[y])))
theorem zo3:MtM X "list.append" rAppend:=by
 intro pins s σ H x vs v us Q I rx rv h
 obtain⟨l,xs,y,rfl,rfl,hH,hz,q⟩:=h
 cases rx
 obtain⟨u,rfl,ru⟩:=rv.one
 obtain⟨z,its,n,r,hl,e⟩:=I.lstM hH
 refine call_meets F.slot_list_append ⟨_,e,rfl⟩ F.entry_list_append (F.args_list_append_2 _ _) (PySem.list_append l its.toArray n u (by rw[List.size_toArray];omega)) ⟨e,?_⟩
 refine⟨.non,_,I.lset (its':=its++[u]) hH e (by simp) (r.append (.cons ru .nil)) ?_,rfl,q⟩
 rw[List.length_append,List.length_singleton]
 omega
def rCat:R2:=fun x y H Q=>∃l b xs zs,x=.ref l∧y=.ref b∧H l=some (.lst xs)∧H b=some (.lst zs)∧xs.length+zs.length≤sizeLine∧∀p,H p=none→Q (.ref p) (upd H p (.lst (xs++zs)))
theorem zt0:OpR X (binaryOp .Add) rCat:=by
 intro pins s σ H x y v u Q I rx ry h
 obtain⟨l,b,xs,zs,rfl,rfl,hH,hB,hz,q⟩:=h
 cases rx
 cases ry
 obtain⟨z,its,n,r,hl,e⟩:=I.lstM hH
 obtain⟨z2,its2,n2,r2,hl2,e2⟩:=I.lstM hB
 refine PySem.P.add_list e e2 ?_ (by rw[List.size_toArray,List.size_toArray];omega)
 have ea:its.toArray++its2.toArray=(its++its2).toArray:=by simp
 rw[ea]
 exact⟨.ref _,_,I.lnew (t':=s.toks) (r.append r2) (by rw[List.length_append];omega),rfl,q _ I.fresh⟩
def rRep:R2:=fun x y H Q=>∃l k xs,x=.ref l∧y=.int k∧H l=some (.lst xs) ∧ -(2 ^ 63)≤k∧k<2 ^ 63∧xs.length*k.toNat≤sizeLine∧
 ∀p,H p=none→Q (.ref p) (upd H p (.lst (List.replicate k.toNat xs).flatten))
theorem len_rep{α:Type}(xs:List α)(k:Nat):(List.replicate k xs).flatten.length=k*xs.length:=by
 induction k with
 |zero=>simp
 |succ k ih=>rw[List.replicate_succ,List.flatten_cons,List.length_append,ih,Nat.succ_mul,Nat.add_comm]
theorem op_rep:OpR X (binaryOp .Mult) rRep:=by
 intro pins s σ H x y v u Q I rx ry h
 obtain⟨l,k,xs,rfl,rfl,hH,h1,h2,hz,q⟩:=h
 cases rx
 obtain⟨t,rfl⟩:=ry
 obtain⟨z,its,n,r,hl,e⟩:=I.lstM hH
 have hlen:its.toArray.size*k.toNat≤sizeLine:=by rw[List.size_toArray,←hl];exact hz
 have hcap:¬its.toArray.size*k.toNat > (2 ^ 63 - 1) / 8:=by
  have:(sizeLine:Nat)≤(2 ^ 63 - 1) / 8:=by decide
  omega
 have hfit:¬(!Builtin.List.listFitsIndex k)=true:=by
  rw[fitsIndex_both h1 h2]
  exact Bool.false_ne_true
 have hlong:¬Builtin.List.listTooLong (its.toArray.size*k.toNat)=true:=by
  rw[notLongL hlen]
  exact Bool.false_ne_true
 have hnew:List.foldl (fun x1 x2=>x1++x2) #[] (List.replicate (if its.toArray.isEmpty=true then 0 else k.toNat) its.toArray)=(List.replicate k.toNat its).flatten.toArray:=by
  have f0:∀m:Nat,List.foldl (fun x1 x2=>x1++x2) #[] (List.replicate m its.toArray)=(List.replicate m its).flatten.toArray:=fun m=>by
   have:=yd1 its m []
   rw[List.nil_append] at this
   exact this
  rw[f0]
  cases its with
  |nil=>simp
  |cons a r'=>rw[if_neg (by simp)]
 refine wpAny_binaryOp_repeat_ref (T:="list") (U:="int") (by decide) ⟨_,e,rfl⟩ (fun s'=>typeIs_int s' k t) noFill_list_mul F.fills_int_mul F.slot_int_rmul repeat_list F.slot_int_index.lookup
  (call_meets F.slot_int_rmul (typeIs_int s k t) F.entry_int_rmul (F.args_int_rmul_2 _ _) (int___rmul___int_list k t l its.toArray n)
   ⟨e,rfl,⟨_,e,rfl⟩,call_meets F.slot_list_mul ⟨_,e,rfl⟩ F.entry_list_mul (F.args_list_mul_2 _ _) (AutoListH.list___mul___list_int_3 l its.toArray n k t hfit hcap hlong) ⟨e,?_⟩⟩)
 rw[hnew]
 exact⟨.ref _,_,I.lnew (t':=s.toks) (r.rep k.toNat) (by rw[len_rep,Nat.mul_comm];exact hz),rfl,q _ I.fresh⟩
end
end L2
namespace Att
open PySem PySem.W PySem.Calls PyProof.Rows
theorem zt6{P:Params}{h:Heap}:∀(ns:List Int) (vs:List Value),WellAll P h vs (ns.map WData.int)→IntsAre vs ns:=by
 intro ns
 induction ns with
 |nil=>
  intro vs w
  rw[List.map_nil] at w
  cases w
  exact .nil
 |cons n ns ih=>
  intro vs w
  rw[List.map_cons] at w
  cases w with
  |cons a b=>
   cases a
   exact .cons _ _ (ih _ b)
theorem script_of{l:OpenLaw}{n:Nat}(hn:l.most=some n){P:Params}{h:Heap}{args:List WData}{vals:List Value}
  (hpre:l.row.toRowW.claim.pre args=true) (hwl:WellAll P h vals args):
  ∃a vs ns,vals=[Value.ref a]∧args=[WData.list (ns.map WData.int)]∧h.get? a=some { cls:=.type "list",data:=.seq vs.toArray }∧IntsAre vs ns∧ns.length≤n:=by
 have hsh:WShape.hasAll [] args [.list .int]=true:=(pre_splitW hpre).1
 have hc:l.pre.holds [] { args:=args }=true:=(pre_splitW hpre).2
 obtain⟨d,r,rfl,h1,h2⟩:=hasAllW_cons hsh
 obtain rfl:=hasAllW_nil h2
 obtain⟨xs,rfl,h3⟩:=hasW_list h1
 obtain⟨ns,rfl⟩:=items_int h3
 have hlen:ns.length≤n:=by
  unfold OpenLaw.pre at hc
  have h4:(WTm.not (.lt (.lit (.int (n:Int))) (.len (.arg 0)))).holds [] { args:=[.list (ns.map .int)] }=true:=by
   have h4:=(holds_andW hc).1
   rw[hn] at h4
   exact h4
  have h5:=condW_of h4 (w_not (w_lt w_lit (w_len_list (w_arg rfl))))
  rw[List.length_map] at h5
  refine Nat.le_of_not_lt fun q=>?_
  have q':(n:Int)<((ns.length:Nat):Int):=by omega
  first
   |(rw[decide_eq_true q'] at h5;exact absurd h5 (by decide))
   |(simp at h5;omega)
 cases hwl with
 |cons w1 w2=>
  cases w2
  cases w1 with
  |list ho hall=>exact⟨_,_,ns,rfl,rfl,ho,zt6 ns _ hall,hlen⟩
theorem post_true(l:OpenLaw)(args:List WData):l.row.toRowW.claim.post args (.bool true) args=true:=
 postW_of (r:=l.row.toRowW) (X:=(true==true))
  (show WShape.has [] (.bool true) .bool=true by first|rfl|decide|simp[WShape.has,WShape.arms,WShape.armsAll])
  (show(WTm.eq .res (.lit (.bool true))).value [] { args:=args,res:=some (.bool true),after:=args }=some (.bool (true==true)) from w_eq_bool (w_res rfl) w_lit) rfl
theorem attach_call{l:OpenLaw}{n:Nat}{q:Program}{loose:List Str}{XP:(Str→Option Value)→Heap→Prop}{YP:World→Heap→Prop}{d:DefRec}
  (hn:l.most=some n) (hdf:d.params.defaults=[])
  (call:∀(w:World) (s₀ s₁:Shared) (mg mb:Str→Option Value) (fa:Addr) (o:Obj) (pm cd doc:Value) (a:Addr) (vs:List Value) (ns:List Int),
   Ground q loose [] XP w s₀ mg mb s₁.heap→YP w s₁.heap→
   s₁.heap.get? fa=some o→o.data=.func (docDef d.name d.params d.body d.scope pm cd doc)→s₁.heap.CodeRec cd d.name→mg d.name=some (.ref fa)→
   s₁.heap.get? a=some { cls:=.type "list",data:=.seq vs.toArray }→IntsAre vs ns→ns.length≤n→s₁.gens = #[]→
   codeAny (model l.prog w) callerA (.call (.ref fa) ⟨[.ref a],[]⟩) (fun r s'=>r=.ok (.ret (.bool true))∧OldK s₁.heap s'.heap∧s'.os=s₁.os∧AllBare s'.gens) s₁):
  WalkO q loose XP YP l.row.toRowW d [] (fun f vs=>PySem.call f vs):=by
 intro w s₀ s₁ mg mb G Y fa o pm cd doc dV kV ho hd hcd hD hmg hg args vals as hpre hlay hrd hwl hlo
 obtain rfl:dV=.none:=Dflts.none hD hdf
 obtain rfl:kV=.none:=Dflts.noKw hD
 obtain⟨a,vs,ns,rfl,rfl,hobj,hints,hlen⟩:=script_of hn hpre hwl
 refine enter_call (codeAny_mono (call w s₀ s₁ mg mb fa o pm cd doc a vs ns G Y ho (fd_plain hd) hcd hmg hobj hints hlen hg) fun r s' hq=>?_)
 obtain⟨rfl,h2,h3,h4⟩:=hq
 exact⟨.inl ⟨.bool true,.bool true,[],rfl,fun _=>rfl,.bool true,post_true l _,fun _=>⟨List.Pairwise.nil,fun _ hm=>(nomatch hm)⟩⟩,h2,h3,h4⟩
end Att
namespace L2
open PySem PySem.Spec PyProof.Rows
theorem ya5:∀ {vs:List Value} {ns:List Int},IntsAre vs ns→Vals (ns.map V.int) vs
 |_,_,.nil=>.nil
 |_,_,.cons n t h=>.cons ⟨t,rfl⟩ (ya5 h)
def Only(H:Hp):Prop:=∀b,H b=none∨∃o xs,H b=some (.frz o (.lst xs))
theorem law_call{P:Program}{w:World}{K:PySem.W.Frag}{mg mb:Str→Option Value}{CX:CXT}{k:Nat}{fa a:Addr}{fd:FuncData}{x:Str}{sp:Sp}{s₁:Shared}{vs:List Value}{ns:List Int}
  (KX:K.In s₁.heap) (hns:s₁.heap.Ns mainGlobals mg) (hb:s₁.heap.Ns builtinsNs mb) (hbb:∀x:Str,x≠"__name__"→mb x=bootBuiltins x) (hlim:s₁.heap.NoLimit) (hg:s₁.gens = #[])
  (ha:s₁.heap.get? a=some { cls:=.type "list",data:=.seq vs.toArray }) (hi:IntsAre vs ns) (hl:ns.length≤sizeLine) (hr:Room k callerA)
  (F:∀base:Heap,K.In base→base.Ns mainGlobals mg→FnOk P w K mg base CX k fa fd [x] sp) (hbind:∀(s:Shared) (u:Value),BindsTo s fd ⟨[u],[]⟩ [(x,u)])
  (hsp:∀H:Hp,Only H→SqL K H a (ns.map V.int)→sp [.ref a] H (fun v _=>v=.bl true) fun _ _ _=>False)
  (hCX:∀H e s',CX [] H s₁ (fun _ _ _=>False) e s'→False):
  codeAny (model P w) callerA (.call (.ref fa) ⟨[.ref a],[]⟩) (fun r s'=>r=.ok (.ret (.bool true))∧OldK s₁.heap s'.heap∧s'.os=s₁.os∧AllBare s'.gens) s₁:=by
 have rv:=ya5 hi
 have lenV:=hi.length
 have core:∀H:Hp,Only H→SqL K H a (ns.map V.int)→HOk P w H s₁.heap→(∀b,H b≠none→b=a)→(H a≠none→K.lookup a=none)→
   codeAny (model P w) callerA (.call (.ref fa) ⟨[.ref a],[]⟩) (fun r s'=>r=.ok (.ret (.bool true))∧OldK s₁.heap s'.heap∧s'.os=s₁.os∧AllBare s'.gens) s₁:=by
  intro H hO hS hok hA hK
  have base_of:∀ {b:Addr} {o:Obj},s₁.heap.get? b=some o→H b=none→(hidT s₁.heap H).get? b=some o:=fun e n=>hidT_get e n
  have noA:∀ {b:Addr} {o:Obj} {es:Array DictEntry} {ep:Nat},s₁.heap.get? b=some o→o.data=.dict es ep→H b=none:=fun {b o es ep} e d=>by
   cases q:H b with
   |none=>rfl
   |some u=>
    have e':b=a:=hA b (by rw[q];simp)
    subst e'
    rw[ha] at e;cases e
    have d':Data.seq vs.toArray _=Data.dict es ep:=d
    cases d'
  have nsK:∀ {b:Addr} {m:Str→Option Value},s₁.heap.Ns b m→(hidT s₁.heap H).Ns b m:=fun {b m} ⟨o,es,ep,e,d,r⟩=>⟨o,es,ep,base_of e (noA e d),d,r⟩
  have hKb:K.In (hidT s₁.heap H):=fun b o e=>base_of (KX b o e) (by
   cases q:H b with
   |none=>rfl
   |some u=>
    have e':b=a:=hA b (by rw[q];simp)
    subst e'
    rw[hK (by rw[q];simp)] at e;cases e)
  have hM:Mod K mg (hidT s₁.heap H):=⟨hKb,nsK hns,⟨mb,nsK hb,hbb⟩,let ⟨mc,h1,h2⟩:=hlim;⟨mc,nsK h1,h2⟩⟩
  have e0:Env0 P w K mg (hidT s₁.heap H) callerA [] s₁ H:=⟨rfl,hM,fun b o e=>of_hidT e,Nat.le_of_eq (hidT_size _ _),trivial,fun b hb=>absurd (show b∈([]:List Addr) from hb) (by simp),hok,.of_eq hg⟩
  refine codeAny_mono ((F _ hKb (nsK hns)).run callerA [] s₁ H ⟨[.ref a],[]⟩ [.ref a] [.ref a] _ _ hr e0 (hbind s₁ (.ref a)) (.cons rfl .nil) (hsp H hO hS)) fun r s' h=>?_
  cases r with
  |error e=>exact(hCX H e s' h).elim
  |ok fl=>
   cases fl with
   |next=>exact False.elim h
   |brk=>exact False.elim h
   |cont=>exact False.elim h
   |ret u=>
    obtain⟨v,H',os,bare,un,hok',r',q⟩:=h
    have q':v=.bl true:=q
    subst q'
    obtain rfl:u=Value.bool true:=r'
    refine⟨rfl,OldK.of_keep fun b o e=>?_,os,bare⟩
    cases q:H b with
    |none=>exact un.keep b o e q (by intro z;exact absurd (show b∈([]:List Addr) from z) (by simp)) (by simp)
    |some u=>
     rcases hO b with z|⟨ob,xs,z⟩
     ·rw[q] at z;cases z
     ·have z2:=un.frzs b ob _ z
      obtain⟨e1,_⟩:=hok b _ z
      obtain⟨e2,_⟩:=hok' b _ z2
      rw[e] at e1;cases e1
      exact e2
 cases hk:K.lookup a with
 |some o=>
  have e:=KX a o hk
  rw[ha] at e
  cases e
  refine core (fun _=>none) (fun _=>.inl rfl) (.inr ⟨_,vs.toArray,_,hk,rfl,rfl,rfl,by rw[List.size_toArray,lenV];exact hl,by simpa using rv⟩) (fun b u z=>by have z':(none:Option HO)=some u:=z;cases z') (fun b z=>absurd rfl z) fun z=>absurd rfl z
 |none=>
  refine core (fun b=>if b=a then some (.frz { cls:=.type "list",data:=.seq vs.toArray } (.lst (ns.map V.int))) else none) (fun b=>?_) (.inl (.inr ⟨{ cls:=.type "list",data:=.seq vs.toArray },if_pos rfl⟩)) (fun b u z=>?_) (fun b z=>?_) fun _=>hk
  ·by_cases hb:b=a
   ·exact .inr ⟨_,_,if_pos hb⟩
   ·exact .inl (if_neg hb)
  ·by_cases hb:b=a
   ·have z':=(if_pos hb).symm.trans z
    cases z'
    subst hb
    exact⟨ha,by rw[List.length_map];exact hl,vs,_,rv,ha⟩
   ·have z':=(if_neg hb).symm.trans z
    cases z'
  ·by_cases hb:b=a
   ·exact hb
   ·exact absurd (if_neg hb) z
theorem walk_of{l:PySem.W.OpenLaw}{n k:Nat}{q:Program}{loose:List Str}{XP:(Str→Option Value)→Heap→Prop}{YP:World→Heap→Prop}{d:DefRec}{K:Params→PySem.W.Frag}{CX:World→CXT}{sp:World→Sp}{x:Str}
  (hn:l.most=some n) (hn2:n≤sizeLine) (hdf:d.params.defaults=[]) (hr:Room k callerA)
  (hY:∀(w:World) (h:Heap),YP w h→(K w.params).In h)
  (F:∀(w:World) (mg:Str→Option Value) (fa:Addr) (h:Heap),(K w.params).In h→h.Ns mainGlobals mg→mg d.name=some (.ref fa)→
   ∃fd:FuncData,(∀(s:Shared) (u:Value),BindsTo s fd ⟨[u],[]⟩ [(x,u)])∧
    ∀base:Heap,(K w.params).In base→base.Ns mainGlobals mg→FnOk l.prog w (K w.params) mg base (CX w) k fa fd [x] (sp w))
  (hsp:∀(w:World) (H:Hp) (a:Addr) (ns:List Int),ns.length≤n→Only H→SqL (K w.params) H a (ns.map V.int)→sp w [.ref a] H (fun v _=>v=.bl true) fun _ _ _=>False)
  (hCX:∀(w:World) (H:Hp) (s:Shared) (e:Value) (s':Shared),CX w [] H s (fun _ _ _=>False) e s'→False):
  PySem.W.WalkO q loose XP YP l.row.toRowW d [] (fun f vs=>PySem.call f vs):=by
 refine Att.attach_call hn hdf fun w s₀ s₁ mg mb fa o pm cd doc a vs ns G Y ho hd hcd hmg hobj hints hlen hg=>?_
 have KX:=hY w _ Y
 obtain⟨fd,hb,hF⟩:=F w mg fa _ KX G.T.g hmg
 exact law_call KX G.T.g G.T.b G.T.builtins G.T.nolimit hg hobj hints (Nat.le_trans hlen hn2) hr hF hb (fun H hO hS=>hsp w H a ns hlen hO hS) fun H e s'=>hCX w H s₁ e s'
def zf7(s:Stmt)(j:Nat):Stmt:=match s with
 |.ClassDef _ _ _ body _ _ _ _ _ _ _=>body.getD j (.Pass ⟨0,0,0,0⟩)
 |_=>.Pass ⟨0,0,0,0⟩
def zp9(s:Stmt):Arguments:=match s with
 |.FunctionDef _ a _ _ _ _ _ _ _ _=>a
 |_=>{ posonlyargs:=[],args:=[],vararg:=none,kwonlyargs:=[],kw_defaults:=[],kwarg:=none,defaults:=[] }
def zj8(s:Stmt):List Stmt:=match s with
 |.FunctionDef _ _ b _ _ _ _ _ _ _=>b
 |_=>[]
def zb2(s:Stmt):Scope:=match s with
 |.FunctionDef _ _ _ _ _ _ sc _ _ _=>sc
 |_=>{ kind:=.function,names:=[],isGenerator:=false,isCoroutine:=false }
abbrev CX0:CXT:=fun _ _ _ _ _ _=>False
abbrev E0:XK:=fun _ _ _=>False
theorem zd2{X:Cx}:Passes CX0 X E0:=fun _ _ _ _ _ _ _ h=>h.elim
structure Fun(K:PySem.W.Frag)(x qual:Str)(st:Stmt)(f:Addr)(fd:FuncData):Prop where
 ex:∃(oc:Value) (od:Option Addr) (kV doc pm:Value) (an:Option Addr) (cdv ct:Value) (osl:Array (Option Value)),
  fd=PySem.W.fnOf x qual (zp9 st) (zj8 st) (zb2 st) .none kV doc pm an cdv ct∧K.lookup f=some ⟨oc,od,.func fd,osl⟩∧PySem.W.codeIn K cdv qual=true
 kp:PySem.W.keepIn K (.ref f)=true
section
variable {P:Program}{w:World}{K:PySem.W.Frag}{mg:Str→Option Value}{base:Heap}
theorem Fun.ok{x qual:Str}{st:Stmt}{f:Addr}{fd:FuncData}{N ps:List Str}{k:Nat}{sp:Sp}(F:Fun K x qual st f fd)(S:FnScope N ps (zb2 st))(len:∀vs H Q E,sp vs H Q E→vs.length=ps.length)
  (hbody:∀(cdv:Value) (A:Around) (outer:List Env) (s:Shared) (H:Hp) (vs:List V) (Q:VK) (E:XK),Room k (A.deeper (envOfC qual (zb2 st) s.heap.objs.size f cdv))→sp vs H Q E→
   ∃t,PSs (yd5 CX0 P w K mg base N qual (zb2 st) f cdv A outer s H E).nox (zj8 st) t∧t { nx:=fun _ H'=>Q .non H',rt:=Q } (start N vs) H):FnOk P w K mg base CX0 (k+1) f fd ps sp:=by
 obtain⟨oc,od,kV,doc,pm,an,cdv,ct,osl,rfl,lk,hcd⟩:=F.ex
 refine fn_of lk hcd S len fun A outer s H vs Q E hr hsp=>?_
 obtain⟨t,h,q⟩:=hbody cdv A outer s H vs Q E hr hsp
 exact⟨t,h.nox,q⟩
theorem Fun.binds{x qual:Str}{st:Stmt}{f:Addr}{fd:FuncData}{ps:List Str}(F:Fun K x qual st f fd)
  (h:∀(kV doc pm:Value) (an:Option Addr) (cdv ct:Value) (us:List Value),us.length=ps.length→bindArgs (PySem.W.fnOf x qual (zp9 st) (zj8 st) (zb2 st) .none kV doc pm an cdv ct) ⟨us,[]⟩=pure (ps.zip us)):Binds K fd ps []:=by
 obtain⟨oc,od,kV,doc,pm,an,cdv,ct,osl,rfl,lk,hcd⟩:=F.ex
 exact .all (h kV doc pm an cdv ct)
theorem fun_mk{x qual:Str}{st:Stmt}{f:Addr}{oc:Value}{od an:Option Addr}{osl:Array (Option Value)}{kV doc pm cdv ct:Value}(l:K.lookup f=some ⟨oc,od,.func (PySem.W.fnOf x qual (zp9 st) (zj8 st) (zb2 st) .none kV doc pm an cdv ct),osl⟩)
  (c:PySem.W.codeIn K cdv qual=true) (k:PySem.W.keepIn K (.ref f)=true):Fun K x qual st f (PySem.W.fnOf x qual (zp9 st) (zj8 st) (zb2 st) .none kV doc pm an cdv ct):=⟨⟨oc,od,kV,doc,pm,an,cdv,ct,osl,rfl,l,c⟩,k⟩
end
theorem small1000{n:Nat}(h:n≤1000):n<sizeLine:=Nat.lt_of_le_of_lt h (by decide)
section
variable {X:Cx}
theorem pv(i:Nat){x:Str}{pos:Pos}(hN:X.N[i]? = some x:=by rfl)(hv:Vis X.env.scope x:=by first|exact Or.inl rfl|exact Or.inr (Or.inl rfl)|exact Or.inr (Or.inr rfl))(hd:(x==("__debug__":Str))=false:=by decide)
  (hcd:(x==("__classdict__":Str))=false:=by decide):PE X (.Name x pos) (zp1 i):=pe_var hN hv hd hcd
end
theorem zk5{A B:Prop}(h:B):if false=true then A else B:=by
 rw[if_neg Bool.false_ne_true]
 exact h
theorem zj4{A B:Prop}(h:A):if true=true then A else B:=by
 rw[if_pos rfl]
 exact h
theorem ite2{c A B:Prop}[Decidable c](h1:c→A)(h2:¬c→B):if c then A else B:=by
 by_cases h:c
 ·rw[if_pos h]
  exact h1 h
 ·rw[if_neg h]
  exact h2 h
def Same(H H':Hp):Prop:=∀b o,H b=some o→H' b=some o
theorem Same.refl(H:Hp):Same H H:=fun _ _ h=>h
theorem Same.trans{H H1 H2:Hp}(a:Same H H1)(b:Same H1 H2):Same H H2:=fun c o h=>b c o (a c o h)
theorem Same.free{H H':Hp}(e:Same H H'){l:Addr}(h:H' l=Option.none):H l=Option.none:=by
 cases q:H l with
 |none=>rfl
 |some o=>
  rw[e l o q] at h
  cases h
theorem Same.seq{K:PySem.W.Frag}{H H':Hp}{a:Addr}{xs:List V}(e:Same H H')(h:SqL K H a xs):SqL K H' a xs:=by
 rcases h with(h|⟨o,h⟩)|h
 ·exact .inl (.inl (e _ _ h))
 ·exact .inl (.inr ⟨o,e _ _ h⟩)
 ·exact .inr h
section
variable {prog:Program}{w:World}{A:Around}{R:Result→Shared→Prop}{s:Shared}
theorem yd7{elt target iter:Expr}{ifs:List Expr}{scope:Scope}{pos:Pos}{it acc:Value}{env:Env}(I:Nat→Shared→Prop)
  (turn:∀n s,I n s→wpAny (model prog w) A (pyNext it) (fun r s₁=>match r with
   |none=>R (.ok .next) s₁
   |some v=>wpAny (model prog w) A (letOwnedTupleGo target it v) (fun _ s₁'=>wpAny (model prog w) A (assign target env v) (fun _ s₂=>
     wpAny (model prog w) A (forIn ifs true fun c r=>if r=true then do let ok ←isTrue c env (eval c env);pure (ForInStep.yield ok) else pure (ForInStep.yield r)) (fun ok s₃=>
      if ok=true then wpAny (model prog w) A (eval elt env) (fun x s₄=>
       wpAny (model prog w) A (call (.builtin "list.append") [acc,x]) (fun _ s₅=>∃m,m<n∧I m s₅) (fun _ _=>False) s₄) (fun _ _=>False) s₃
      else ∃m,m<n∧I m s₃) (fun _ _=>False) s₂) (fun _ _=>False) s₁') (fun _ _=>False) s₁) (fun _ _=>False) s)
  (n:Nat) (h:I n s):
  codeAny (model prog w) A (.compLoop (.ListComp elt [⟨target,iter,ifs,0⟩] scope pos) 0 it acc env) R s:=by
 refine codeAny_loop rfl I (fun n s hI=>?_) n h
 show wpAny _ A ((compTurn (.ListComp elt [⟨target,iter,ifs,0⟩] scope pos) 0 it acc env).onRaise (fun x=>do noteFrame x env;theTreesLotGoes x)) _ _ s
 refine wpAny_noted ?_
 rw[compTurn_list]
 refine wpAny_bind (wpAny_standAt (wpAny_bind (wpAny_mono (turn n s hI) (fun r s₁ h₁=>?_) fun _ _ h'=>h'.elim)))
 cases r with
 |none=>exact wpAny_pure h₁
 |some v=>
  refine wpAny_bind (wpAny_mono h₁ (fun _ s₁' h₁'=>?_) fun _ _ h'=>h'.elim)
  refine wpAny_bind (wpAny_mono h₁' (fun _ s₂ h₂=>wpAny_bind (wpAny_mono h₂ (fun ok s₃ h₃=>?_) fun _ _ h'=>h'.elim)) fun _ _ h'=>h'.elim)
  cases ok with
  |false=>exact wpAny_pure ⟨rfl,h₃⟩
  |true=>
   exact wpAny_bind (wpAny_bind (wpAny_mono h₃ (fun x s₄ h₄=>wpAny_bind (wpAny_mono h₄ (fun _ s₅ h₅=>wpAny_pure (wpAny_pure ⟨rfl,h₅⟩)) fun _ _ h'=>h'.elim)) fun _ _ h'=>h'.elim))
end
def cxC(X:Cx)(N':List Str)(scope:Scope)(cl:List (Str×Addr))(C:Addr)(fp:List Addr)(s:Shared)(H:Hp):Cx where
 prog:=X.prog
 w:=X.w
 K:=X.K
 mg:=X.mg
 base:=X.base
 A:=X.A
 N:=N'
 s₀:=s
 H₀:=H
 env:=compEnvC scope cl C X.env
 outer:=X.stack
 stack:=X.stack
 ex:=fp
 fn:=fun _=>false
 calm:=X.calm
 pn:=[]
 xe:=fun _ _=>False
def outC(js:List Nat)(σ:St):St:=js.map fun j=>(σ[j]?).join
def PIfs(X:Cx)(ifs:List Expr)(t:TT):Prop:=
 ∀(pins:List (Addr×Obj)) (s:Shared) (σ:St) (H:Hp) (Q:Bool→Hp→Prop),Inv X pins σ H s→t σ H Q→
  wpAny (model X.prog X.w) X.A (forIn ifs true fun c r=>if r=true then do let ok ←isTrue c X.env (eval c X.env);pure (ForInStep.yield ok) else pure (ForInStep.yield r)) (TP X pins σ Q) X.xe s
def tNoIf:TT:=fun _ H Q=>Q true H
theorem zr5{X:Cx}:PIfs X [] tNoIf:=fun _ _ _ H _ I h=>wpAny_tests_nil ⟨H,I,h⟩
def tComp(js:List Nat)(wi:TI)(ti:TT)(te:TE):TE:=fun σ H Q=>wi σ H fun J H1=>∀D,H1 D=none→
 ∃W:Nat→Nat→Hp→List V→Prop,(∃m,W 0 m (upd H1 D (.lst [])) [])∧∀i m H' ys,W i m H' ys→
  (J.stop i H'∧Q (.ref D) H')∨(J.go i H'∧∃N:Hp→List V→Prop,(∀H' ys',N H' ys'→∃m',m'<m∧W (i+1) m' H' ys')∧∀x H2,J.yld i H' x H2→ti (some x::outC js σ) H2 fun b H4=>
    if b=true then te (some x::outC js σ) H4 fun y H5=>H5 D=some (.lst ys)∧ys.length<sizeLine∧N (upd H5 D (.lst (ys++[y]))) (ys++[y])
    else N H4 ys)
section
variable {X:Cx}{elt iter:Expr}{ifs:List Expr}{scope:Scope}{pos px:Pos}{x:Str}{cl:List (Str×Addr)}{ys:List Str}{js:List Nat}{ti:TT}{te:TE}
structure CompScope(X:Cx)(scope:Scope)(cl:List (Str×Addr))(x:Str)(ys:List Str)(js:List Nat):Prop where
 clos:closureFor scope X.env=pure cl
 cl_in:∀y c,cl.lookup y=some c→X.env.cells.lookup y=some c
 nocell:∀y∈scope.names,y.2≠.cell
 kind:scope.kind=.function
 locs:∀y∈scope.names,y.2=.local→scope.names.lookup y.1=some .local
 own:scope.names.lookup x=some .local
 nd:(x::ys).Nodup
 has:∀y,((relabel scope X.env).names.lookup y=some .cell∨(relabel scope X.env).names.lookup y=some .free)→∃c,cl.lookup y=some c
 len:ys.length=js.length
 out:∀(k j:Nat),js[k]? = some j→∃y,ys[k]? = some y∧X.N[j]? = some y∧(X.env.kindOf y=some .cell∨X.env.kindOf y=some .free)∧(∃c,cl.lookup y=some c)∧
  ((relabel scope X.env).names.lookup y=some .cell∨(relabel scope X.env).names.lookup y=some .free)
theorem comp_inv{pins:List (Addr×Obj)}{σ:St}{H3:Hp}{s3:Shared}{h1:Heap}{fp:List Addr}{tk:Nat}(S:CompScope X scope cl x ys js)(I3:Inv X pins σ H3 s3)(hf:∀b∈fp,FpOk X pins H3 b)
  (ho:∀b∈fp,∃o,s3.heap.get? b=some o) (keep:∀b o,s3.heap.get? b=some o→h1.get? b=some o) (hns:∃m,h1.Ns s3.heap.objs.size m):
  Inv (cxC X (x::ys) scope cl s3.heap.objs.size fp s3 H3) [] (none::outC js σ) H3 { s3 with heap:=h1,toks:=tk }:=by
 have ok:(cxC X (x::ys) scope cl s3.heap.objs.size fp s3 H3).Ok:=by
  refine⟨I3.ok.mod,S.kind,I3.ok.glob,I3.ok.blt,Nat.le_refl _,fun x y c e1 e2=>I3.ok.inj x y c (S.cl_in x c e1) (S.cl_in y c e2),S.has,(fun _ _ hx=>nomatch hx),I3.ok.hd,I3.ok.frames,.inl rfl,fun b hb=>?_,I3.bs,Nat.le_trans I3.ok.bsz I3.sz,fun b o e hb=>?_,fun b hb hx=>?_,I3.stack,I3.stkFree⟩
  ·obtain⟨o,e⟩:=ho b hb
   exact⟨Nat.ne_of_lt (Heap.lt_size e),fun x c e=>(hf b hb).2.2.2.2.1 x c (S.cl_in x c e)⟩
  ·rcases(hf b hb).2.2.2.1 with z|z
   ·exact I3.ok.noex b o e z
   ·exact absurd (Nat.lt_of_lt_of_le (Heap.lt_size e) (Nat.le_trans I3.ok.bsz z)) (Nat.lt_irrefl _)
  ·rcases List.mem_cons.mp (I3.stkSub b hx) with z|z
   ·exact(hf b hb).2.1 z
   ·exact(hf b hb).2.2.1 z
 obtain⟨m,hm⟩:=hns
 refine⟨ok,rfl,I3.bare,Un.kept keep,⟨m,hm,fun i y v e1 e2 _=>?_⟩,fun y c e=>?_,I3.hok.fresh (Nat.le_refl _),fun y c e=>I3.freeC y c (S.cl_in y c e),fun p hp=>absurd (show p∈([]:List (Addr×Obj)) from hp) (by simp),I3.hok.kept keep,?_⟩
 ·cases i with
  |zero=>exact absurd (show(some none:Option (Option V))=some (some v) from e2) (by simp)
  |succ k=>
   have e2':(js.map fun j=>(σ[j]?).join)[k]? = some (some v):=e2
   rw[List.getElem?_map] at e2'
   cases ej:js[k]? with
   |none=>rw[ej] at e2';cases e2'
   |some j=>
    rw[ej] at e2'
    have e3:(σ[j]?).join=some v:=Option.some.inj e2'
    have e4:σ[j]? = some (some v):=by
     cases q:σ[j]? with
     |none=>rw[q] at e3;cases e3
     |some o=>rw[q] at e3;exact congrArg some e3
    obtain⟨y',n1,n2,k1,⟨c,hc⟩,k2⟩:=S.out k j ej
    have ey:y=y':=by
     have:some y=some y':=(show ys[k]? = some y from e1).symm.trans n1
     exact Option.some.inj this
    subst ey
    obtain⟨m',hn',hl'⟩:=I3.loc
    have vis:Vis X.env.scope y:=by
     rcases k1 with z|z
     ·exact .inr (.inl z)
     ·exact .inr (.inr z)
    obtain⟨u,r,l⟩:=hl' j y v n2 e4 vis
    refine⟨u,r,?_⟩
    rcases l with⟨kl,_⟩|⟨_,c',hc',hcell⟩
    ·rcases k1 with z|z
     ·rw[z] at kl;cases kl
     ·rw[z] at kl;cases kl
    ·have ec:c=c':=by
      have q:=S.cl_in y c hc
      rw[hc'] at q
      exact(Option.some.inj q).symm
     subst ec
     obtain⟨o,ho',hd'⟩:=hcell
     exact .inr ⟨k2,c,hc,o,keep c o ho',hd'⟩
 ·obtain⟨v,o,ho',hd'⟩:=I3.cell y c (S.cl_in y c e)
  exact⟨v,o,keep c o ho',hd'⟩
 ·show(none::outC js σ).length=(x::ys).length
  simp[outC,S.len]
def CompFin(X:Cx)(pins:List (Addr×Obj))(σ:St)(use:Option (Value→Sem Unit))(QQ:Value→Shared→Prop)(Q:VK):Prop:=
 ∀(D C:Addr) (s7:Shared) (H7:Hp),(∀h',Heap.SameBut C s7.heap h'→Inv X pins σ H7 { s7 with heap:=h' })→(∃m,s7.heap.Ns C m)→FpOk X pins H7 C→X.s₀.heap.objs.size≤C→Q (.ref D) H7→
  compPost (model X.prog X.w) X.A X.xe use QQ (.ref D) C (.ok .next) s7
theorem yd6{wi:TI}{use:Option (Value→Sem Unit)}{QQ:Value→Shared→Prop}{cpos:Pos}(hcalm:X.calm=true)(S:CompScope X scope cl x ys js)(hi:PI X (.Name x px) iter wi)
  (ht:∀C fp s H,PIfs (cxC X (x::ys) scope cl C fp s H) ifs ti) (he:∀C fp s H,PE (cxC X (x::ys) scope cl C fp s H) elt te)
  (hs:∀x,foldedSetIterable iter X.env x=pure x) {pins:List (Addr×Obj)} {s:Shared} {σ:St} {H:Hp} {Q:VK} (I:Inv X pins σ H s) (h:tComp js wi ti te σ H Q) (fin0:CompFin X pins σ use QQ Q):
  wpAny (model X.prog X.w) X.A (comprehension (.ListComp elt [⟨.Name x px,iter,ifs,0⟩] scope pos) scope X.env cpos (newList []) false (eval iter X.env) use) QQ X.xe s:=by
 refine wpAny_comprehension_free (use:=use) (cl:=cl) rfl hs S.clos S.kind S.locs ?_
 refine thn (hi pins s σ H _ I h) fun v s1 h1=>thn h1 fun itv s2 h2=>?_
 obtain⟨it,fp,tn,J,H2,e,I2,T,st2,f2,rd⟩:=h2
 subst e
 refine wpAny_newObj_type ?_
 have hD2:H2 s2.heap.objs.size=none:=I2.hok.fresh (Nat.le_refl _)
 have I3:Inv X pins σ (upd H2 s2.heap.objs.size (.lst [])) { s2 with heap:=s2.heap.push { cls:=.type "list",dict:=none,data:=.seq ([]:List Value).toArray } }:=
  I2.laid (t':=s2.toks) (fun b u e=>Heap.get?_push_of_some _ e) (Nat.le_refl _) ⟨Nat.zero_le _,[],0,.nil,Heap.get?_push_size _ rfl⟩
 have f3:∀b∈fp,FpOk X pins (upd H2 s2.heap.objs.size (.lst [])) b:=fun b hb=>by
  refine⟨?_,(f2 b hb).2⟩
  obtain⟨o,e,_⟩:=T.obj 0 _ st2 b hb
  rw[zb8 (Nat.ne_of_lt (Heap.lt_size e))]
  exact(f2 b hb).1
 have st3:tn 0 (s2.heap.push { cls:=.type "list",dict:=none,data:=.seq ([]:List Value).toArray }):=T.keep _ _ _ st2 fun b _ o e=>Heap.get?_push_of_some _ e
 have rd3:=rd s2.heap.objs.size hD2
 generalize s2.heap.objs.size=D at I3 f3 rd3 ⊢
 generalize hH3:upd H2 D (.lst [])=H3 at I3 f3 rd3
 generalize hs3:({ s2 with heap:=s2.heap.push { cls:=.type "list",dict:=none,data:=.seq ([]:List Value).toArray } }:Shared)=s3 at I3 ⊢
 have st3':tn 0 s3.heap:=by rw[←hs3];exact st3
 obtain⟨W,⟨m0,w0⟩,turn⟩:=rd3
 refine wpAny_newFunctionEnv S.nocell (by intro y hy;simp at hy) (fun h₁ hns₁ hsb₁=>?_) S.kind
 have keep:∀b o,s3.heap.get? b=some o→h₁.get? b=some o:=fun b o e=>by
  rw[hsb₁.2 b (Nat.ne_of_lt (Heap.lt_size e))]
  exact Heap.get?_push_of_some _ e
 have hof:∀b∈fp,∃o,s3.heap.get? b=some o:=fun b hb=>by
  obtain⟨o,e,_⟩:=T.obj 0 _ st3' b hb
  exact⟨o,e⟩
 have I4:=comp_inv (tk:=s3.toks+([]:List (Str×Value)).length) S I3 f3 hof keep ⟨_,hns₁⟩
 have stat:∀ {H':Hp},(∀b∈fp,H' b=none)→∀b∈fp,FpOk (cxC X (x::ys) scope cl s3.heap.objs.size fp s3 H3) [] H' b:=fun hn b hb=>by
  obtain⟨_,g1,g2,g3,g4,g5⟩:=f3 b hb
  obtain⟨o,e⟩:=hof b hb
  refine⟨hn b hb,Nat.ne_of_lt (Heap.lt_size e),fun hx=>?_,.inl hb,fun x c e=>g4 x c (S.cl_in x c e),fun p hp=>absurd (show p∈([]:List (Addr×Obj)) from hp) (by simp)⟩
  rcases List.mem_cons.mp (I3.stkSub b hx) with z|z
  ·exact g1 z
  ·exact g2 z
 have fin:∀ {σ7:St} {H7:Hp} {s7:Shared},Inv (cxC X (x::ys) scope cl s3.heap.objs.size fp s3 H3) [] σ7 H7 s7→Q (.ref D) H7→compPost (model X.prog X.w) X.A X.xe use QQ (.ref D) s3.heap.objs.size (.ok .next) s7:=fun {σ7 H7 s7} I7 q=>by
  obtain⟨m,hn,_⟩:=I7.loc
  refine fin0 D s3.heap.objs.size s7 H7 (fun h' hs'=>?_) ⟨m,hn⟩ (I3.fpOk (Nat.le_refl _) I7.free) I3.sz q
  have ne:∀b o,s3.heap.get? b=some o→b≠s3.heap.objs.size:=fun b o e=>Nat.ne_of_lt (Heap.lt_size e)
  have u:Un (frs X.stack) fp H3 H7 s3.heap s7.heap:=I7.base
  have hC:H7 s3.heap.objs.size=none:=I7.free
  refine I3.call' (ch:=fp) (s':={ s7 with heap:=h' }) I7.os ⟨fun b o e n hb hx=>(hs'.2 b (ne b o e)).trans (u.keep b o e n hb hx),fun b o e n hb hx=>?_,u.free,fun b o e hx=>?_,u.tups,u.frzs,u.tbls⟩ ?_ I7.bare ?_
  ·obtain⟨sl,q⟩:=u.slot b o e n hb hx
   exact⟨sl,(hs'.2 b (ne b o e)).trans q⟩
  ·obtain⟨o',q⟩:=u.there b o e hx
   exact⟨o',(hs'.2 b (ne b o e)).trans q⟩
  ·intro b ob eb
   refine(I7.hok b ob eb).stay (fun c v hc q=>(hs'.2 c ?_).trans q) (fun _ q=>q) fun _ _ q=>q
   rcases hc with z|z
   ·intro y;rw[z] at y;rw[y] at eb;rw[hC] at eb;cases eb
   ·intro y;rw[y] at z;rw[hC] at z;cases z
  ·intro b hb
   obtain⟨_,g1,g2,g3,g4,g5⟩:=f3 b hb
   exact⟨g3,g1,g4,g5⟩
 have loop:∀(s5:Shared) (n i:Nat) (σ5:St) (H5:Hp) (zs:List V),Inv (cxC X (x::ys) scope cl s3.heap.objs.size fp s3 H3) [] (none::outC js σ) H5 s5→tn i s5.heap→(∀b∈fp,H5 b=none)→W i n H5 zs→
   codeAny (model X.prog X.w) X.A (.compLoop (.ListComp elt [⟨.Name x px,iter,ifs,0⟩] scope pos) 0 (.ref it) (.ref D) (compEnvC scope cl s3.heap.objs.size X.env)) (compPost (model X.prog X.w) X.A X.xe use QQ (.ref D) s3.heap.objs.size) s5:=by
  intro s5 n i σ5 H5 zs I5 st5 fr5 w5
  refine yd7 (fun n s=>∃i H' zs,Inv (cxC X (x::ys) scope cl s3.heap.objs.size fp s3 H3) [] (none::outC js σ) H' s∧tn i s.heap∧(∀b∈fp,H' b=none)∧W i n H' zs) ?_ n ⟨i,H5,zs,I5,st5,fr5,w5⟩
  rintro n s6 ⟨i,H6,zs,I6,st6,fr6,w6⟩
  rcases turn i n H6 zs w6 with⟨stop,q⟩|⟨go,N,hN,step⟩
  ·refine thn (T.done (cxC X (x::ys) scope cl s3.heap.objs.size fp s3 H3) rfl rfl rfl hcalm i [] s6 _ H6 (fun _ _=>False) I6 (stat fr6) st6 stop) fun r s7 ⟨hr,I7⟩=>?_
   subst hr
   exact fin I7 q
  ·refine thn (T.item (cxC X (x::ys) scope cl s3.heap.objs.size fp s3 H3) rfl rfl rfl hcalm i [] s6 _ H6 (fun _ _=>False) I6 (stat fr6) st6 go) fun r s7 ⟨u,hr,h7⟩=>?_
   subst hr
   refine thn h7 fun _ s8 ⟨v8,H8,I8,r8,y8,st8,fr8⟩=>?_
   have I8':=I8.pinned (stat fr8) (T.obj _ _ st8)
   have pg:PG (cxC X (x::ys) scope cl s3.heap.objs.size fp s3 H3) (.Name x px) (yn1 0):=zy7 S.nd rfl (.inl (lookup_relabel_local S.own)) (.inr (lookup_relabel_local S.own))
   refine thn (pg _ s8 _ H8 v8 u (fun σ9 H9=>σ9=some v8::outC js σ∧H9=H8) I8' r8 ⟨rfl,rfl⟩) fun _ s9 ⟨σ9,H9,I9,e9,eh9⟩=>?_
   subst e9 eh9
   have again:∀ {s':Shared} {H':Hp} {zs':List V},Inv (cxC X (x::ys) scope cl s3.heap.objs.size fp s3 H3) ([]++yb8 fp s8.heap) (some v8::outC js σ) H' s'→N H' zs'→
     ∃m,m<n∧∃i H' zs,Inv (cxC X (x::ys) scope cl s3.heap.objs.size fp s3 H3) [] (none::outC js σ) H' s'∧tn i s'.heap∧(∀b∈fp,H' b=none)∧W i m H' zs:=fun {s' H' zs'} I' n'=>by
    obtain⟨m',hm,w'⟩:=hN H' zs' n'
    refine⟨m',hm,i+1,H',zs',I'.unpinned.weak rfl ?_,T.keep _ _ _ st8 fun b hb o e=>(I'.pin (b,o) (List.mem_append_right _ (List.mem_append_right _ (zm7 hb e)))).1,fun b hb=>?_,w'⟩
    ·intro k v e
     cases k with
     |zero=>exact absurd (show(some none:Option (Option V))=some (some v) from e) (by simp)
     |succ k=>exact e
    ·obtain⟨o,e,d⟩:=T.obj _ _ st8 b hb
     exact(I'.pin (b,o) (List.mem_append_right _ (List.mem_append_right _ (zm7 hb e)))).2.1
   refine thn (ht _ _ _ _ _ s9 _ _ _ I9 (step v8 _ y8)) fun b s10 ⟨H10,I10,q10⟩=>?_
   cases b with
   |false=>
    rw[if_neg Bool.false_ne_true] at q10 ⊢
    exact again I10 q10
   |true=>
    rw[if_pos rfl] at q10 ⊢
    refine thn (he _ _ _ _ _ s10 _ H10 _ I10 q10) fun xv s11 ⟨y,H11,I11,r11,hD11,hz,n11⟩=>?_
    refine thn (zo3 _ s11 _ H11 (.ref D) [y] (.ref D) [xv] (fun _ H'=>H'=upd H11 D (.lst (zs++[y]))) I11 rfl (.cons r11 .nil) ⟨D,zs,y,rfl,rfl,hD11,hz,rfl⟩) fun _ s12 ⟨_,H12,I12,_,e12⟩=>?_
    subst e12
    exact again I12 n11
 have st4:tn 0 h₁:=T.keep _ _ _ st3' fun b _ o e=>keep b o e
 have fr4:∀b∈fp,H3 b=none:=fun b hb=>(f3 b hb).1
 exact codeAny_compStart_list (loop _ m0 0 [] H3 [] I4 st4 fr4 w0) (T.self X.A 0 _ _ _ st4 (loop _ m0 0 [] H3 [] I4 st4 fr4 w0))
theorem pe_comp{wi:TI}(hcalm:X.calm=true)(S:CompScope X scope cl x ys js)(hi:PI X (.Name x px) iter wi)
  (ht:∀C fp s H,PIfs (cxC X (x::ys) scope cl C fp s H) ifs ti) (he:∀C fp s H,PE (cxC X (x::ys) scope cl C fp s H) elt te)
  (hs:∀x,foldedSetIterable iter X.env x=pure x:=by intro _;rfl):
  PE X (.ListComp elt [⟨.Name x px,iter,ifs,0⟩] scope pos) (tComp js wi ti te):=by
 intro pins s σ H Q I h
 rw[eval_ListComp]
 exact yd6 (use:=none) hcalm S hi ht he hs I h fun D C s7 H7 inv ⟨m,hn⟩ _ _ q=>⟨m,hn,fun h' hs'=>⟨.ref D,H7,inv h' hs',rfl,q⟩⟩
theorem Inv.junk{pins:List (Addr×Obj)}{σ:St}{H:Hp}{s:Shared}{C:Addr}{h':Heap}(I:Inv X pins σ H s)(hf:FpOk X pins H C)(hsz:X.s₀.heap.objs.size≤C)(hs:Heap.SameBut C s.heap h'):Inv X pins σ H { s with heap:=h' }:=by
 obtain⟨f0,f1,f2,f3,f4,f5⟩:=hf
 have ne:∀b o,X.s₀.heap.get? b=some o→b≠C:=fun b o e=>Nat.ne_of_lt (Nat.lt_of_lt_of_le (Heap.lt_size e) hsz)
 obtain⟨m,hn,hl⟩:=id I.loc
 refine⟨I.ok,I.os,I.bare,⟨fun b o e n hb hx=>(hs.2 b (ne b o e)).trans (I.base.keep b o e n hb hx),fun b o e n hb hx=>?_,I.base.free,fun b o e hx=>?_,I.base.tups,I.base.frzs,I.base.tbls⟩,⟨m,hn.sameBut hs f1.symm,fun j y v e1 e2 e3=>?_⟩,fun y c e=>?_,I.free,I.freeC,fun p hp=>?_,fun b ob e=>?_,I.len⟩
 ·obtain⟨sl,e1⟩:=I.base.slot b o e n hb hx
  exact⟨sl,(hs.2 b (ne b o e)).trans e1⟩
 ·obtain⟨o',e1⟩:=I.base.there b o e hx
  exact⟨o',(hs.2 b (ne b o e)).trans e1⟩
 ·obtain⟨u',r',q⟩:=hl j y v e1 e2 e3
  refine⟨u',r',?_⟩
  rcases q with⟨k,e⟩|⟨k,c,e,z⟩
  ·exact .inl ⟨k,e⟩
  ·exact .inr ⟨k,c,e,z.sameBut hs (f4 y c e)⟩
 ·obtain⟨w',z⟩:=I.cell y c e
  exact⟨w',z.sameBut hs (f4 y c e)⟩
 ·obtain⟨e,nn,nee,nf,d⟩:=I.pin p hp
  exact⟨(hs.2 p.1 (f5 p hp)).trans e,nn,nee,nf,d⟩
 ·refine(I.hok b ob e).stay (fun c u hc q=>(hs.2 c ?_).trans q) (fun _ q=>q) fun _ _ q=>q
  rintro rfl
  rcases hc with z|z
  ·rw[←z,f0] at e;cases e
  ·rw[f0] at z;cases z
theorem ps_setC{wi:TI}{i:Nat}{y:Str}{py spos:Pos}(hN:X.N.Nodup)(hix:X.N[i]? = some y)(hxl:Loc X.env.scope y)(hcalm:X.calm=true)(S:CompScope X scope cl x ys js)(hi:PI X (.Name x px) iter wi)
  (ht:∀C fp s H,PIfs (cxC X (x::ys) scope cl C fp s H) ifs ti) (he:∀C fp s H,PE (cxC X (x::ys) scope cl C fp s H) elt te)
  (hsw:swapsWith (.ListComp elt [⟨.Name x px,iter,ifs,0⟩] scope pos) (some (.Name y py)) spos.line X.env=pure true:=by rfl) (hs:∀x,foldedSetIterable iter X.env x=pure x:=by intro _;rfl)
  (hf:X.fn y=true∨X.env.scope.names.lookup y=some .local:=by first|exact .inl rfl|exact .inr rfl|assumption):
  PS X (.Assign [.Name y py] (.ListComp elt [⟨.Name x px,iter,ifs,0⟩] scope pos) spos) (tAsg (tComp js wi ti te) (yn1 i)):=by
 intro pins s σ H D I h
 rw[exec_Assign_Name_used _ _ _ _ hsw]
 refine wpAny_bind (wpAny_standAt (wpAny_bind ?_))
 show wpAny _ _ (do let _ ←comprehension (.ListComp elt [⟨.Name x px,iter,ifs,0⟩] scope pos) scope X.env _ (newList []) false (eval iter X.env) (some (assign (.Name y py) X.env))) _ _ s
 refine wpAny_bind (wpAny_mono (yd6 (use:=some (assign (.Name y py) X.env)) (QQ:=fun _ s'=>SP X pins D .next s') hcalm S hi ht he hs I h fun DD C s7 H7 inv ⟨m,hn⟩ hfp hsz q=>?_) (fun _ s' hq=>wpAny_pure (wpAny_pure hq)) fun _ _ e=>e)
 have J:Inv X pins σ H7 s7:=inv s7.heap (Heap.SameBut.refl _ _)
 show wpAny _ _ (assign (.Name y py) X.env (.ref DD)) _ _ _
 refine wpAny_assign_Name (ya9 J hN hix hxl (show RelV (.ref DD) (.ref DD) from rfl) (fun s8 I8 ⟨a,sb,ha⟩=>?_) hf)
 have nC:C≠a:=by
  rcases ha with rfl|hc
  ·exact hfp.2.1
  ·exact(hfp.2.2.2.2.1 _ _ hc).symm
 exact⟨m,hn.sameBut sb nC,fun h' hs'=>⟨_,H7,I8.junk hfp hsz hs',q⟩⟩
theorem comp_list {K : PySem.W.Frag} {a D : Addr} {xs : List V} {τ : St} {te : TE} {H : Hp} {Q : Hp → Prop} (Pv : Nat → Hp → List V → Prop) (h0 : Pv 0 (upd H D (.lst [])) [])
    (hl : ∀ i H ys, i ≤ xs.length → Pv i H ys → SqL K H a xs)
    (hs : ∀ i x H ys, xs[i]? = some x → Pv i H ys → te (some x :: τ) H fun y H5 => H5 D = some (.lst ys) ∧ ys.length < sizeLine ∧ Pv (i + 1) (upd H5 D (.lst (ys ++ [y]))) (ys ++ [y]))
    (hd : ∀ H ys, Pv xs.length H ys → Q H) :
    ∃ W : Nat → Nat → Hp → List V → Prop, (∃ m, W 0 m (upd H D (.lst [])) []) ∧ ∀ i m H' ys, W i m H' ys →
      ((Itl K a).stop i H' ∧ Q H') ∨ ((Itl K a).go i H' ∧ ∃ N : Hp → List V → Prop, (∀ H' ys', N H' ys' → ∃ m', m' < m ∧ W (i + 1) m' H' ys') ∧ ∀ x H2, (Itl K a).yld i H' x H2 → tNoIf (some x :: τ) H2 fun b H4 =>
        if b = true then te (some x :: τ) H4 fun y H5 => H5 D = some (.lst ys) ∧ ys.length < sizeLine ∧ N (upd H5 D (.lst (ys ++ [y]))) (ys ++ [y])
        else N H4 ys) := by
  refine ⟨fun i m H ys => m = xs.length - i ∧ i ≤ xs.length ∧ Pv i H ys, ⟨xs.length, by simp, Nat.zero_le _, h0⟩, ?_⟩
  rintro i m H ys ⟨rfl, hi, p⟩
  have q := hl i H ys hi p
  by_cases hlt : i < xs.length
  · refine .inr ⟨⟨xs, xs[i], q, by simp [hlt]⟩, Pv (i + 1), fun H' ys' p' => ⟨xs.length - (i + 1), by omega, rfl, hlt, p'⟩, fun x H' y => ?_⟩
    obtain ⟨e, y⟩ := y
    subst e
    exact hs i x _ ys (y xs q) p
  · have e : i = xs.length := by omega
    subst e
    exact .inl ⟨⟨xs, q, Nat.le_refl _⟩, hd H ys p⟩
end
mutual
inductive DV(H:Hp):V→PyData→Prop
 |non:DV H .non .none
 |bl (b:Bool):DV H (.bl b) (.bool b)
 |int (i:Int):DV H (.int i) (.int i)
 |str (x:Str):DV H (.str x) (.str x)
 |lst {a:Addr} {xs:List V} {ds:List PyData}:H a=some (.lst xs)→DVs H xs ds→DV H (.ref a) (.list ds)
 |tup {a:Addr} {xs:List V} {ds:List PyData}:H a=some (.tup xs)→DVs H xs ds→DV H (.ref a) (.tuple ds)
inductive DVs(H:Hp):List V→List PyData→Prop
 |nil:DVs H [] []
 |cons {x:V} {xs:List V} {d:PyData} {ds:List PyData}:DV H x d→DVs H xs ds→DVs H (x::xs) (d::ds)
end
section
variable {P:Program}{w:World}{H:Hp}{h:Heap}
mutual
theorem DV.reads(hok:HOk P w H h):∀(d:PyData) (x:V) (u:Value),DV H x d→RelV x u→∃as,Reads h u d as
 |.none,x,u,r,q=>by cases r;cases(show u=Value.none from q);exact⟨[],.none⟩
 |.bool b,x,u,r,q=>by cases r;cases(show u=Value.bool b from q);exact⟨[],.bool b⟩
 |.int i,x,u,r,q=>by cases r;obtain⟨t,rfl⟩:=(show ∃t,u=Value.int i t from q);exact⟨[],.int i t⟩
 |.str y,x,u,r,q=>by cases r;obtain⟨t,rfl⟩:=(show ∃t,u=Value.str y t from q);exact⟨[],.str y t⟩
 |.list ds,x,u,r,q=>by
  cases r with
  |@lst a xs _ e rs=>
   cases(show u=Value.ref a from q)
   obtain⟨z,its,n,rv,eo⟩:=(show ObjOk P w H h a (.lst xs) from hok a _ e)
   obtain⟨as,ra⟩:=DVs.reads hok ds xs its rs rv
   exact⟨a::as,.list eo rfl rfl (by simpa using ra)⟩
 |.tuple ds,x,u,r,q=>by
  cases r with
  |@tup a xs _ e rs=>
   cases(show u=Value.ref a from q)
   obtain⟨z,its,rv,o,eo,hc,n,hd⟩:=(show ObjOk P w H h a (.tup xs) from hok a _ e)
   obtain⟨as,ra⟩:=DVs.reads hok ds xs its rs rv
   exact⟨as,.tuple eo hc hd (by simpa using ra)⟩
 |.dict _,x,u,r,q=>by cases r
theorem DVs.reads(hok:HOk P w H h):∀(ds:List PyData) (xs:List V) (us:List Value),DVs H xs ds→Vals xs us→∃as,ReadsAll h us ds as
 |[],_,_,r,q=>by cases r;cases q;exact⟨[],.nil⟩
 |d::ds,_,_,r,q=>by
  cases r with
  |cons r1 r2=>
   cases q with
   |cons q1 q2=>
    obtain⟨as,ra⟩:=DV.reads hok d _ _ r1 q1
    obtain⟨bs,rb⟩:=DVs.reads hok ds _ _ r2 q2
    exact⟨as++bs,.cons ra rb⟩
end
end
section
variable {X:Cx}
theorem op_neD(hu:X.A.units+64<cLine):OpR X (compareOp .NotEq) (fun x y H Q=>∃dx dy,DV H x dx∧DV H y dy∧dx.canLay0=true∧dy.canLay0=true∧dx.depth≤64∧Q (.bl (!PyData.eqv dx dy)) H):=by
 intro pins s σ H x y v u Q I rx ry h
 obtain⟨dx,dy,hx,hy,cx,cy,hd,q⟩:=h
 obtain⟨as,ra⟩:=hx.reads I.hok dx x v rx
 obtain⟨bs,rb⟩:=hy.reads I.hok dy y u ry
 exact SeqAt.compareNe_reads ra rb cx cy (Nat.lt_of_le_of_lt (Nat.add_le_add_left (Nat.le_trans (Nat.min_le_left _ _) hd) _) hu) ⟨.bl _,H,I,rfl,q⟩
theorem strs_of{zs:List Str}:∀ {us:List Value},Vals (zs.map V.str) us→StrsAre us zs:=by
 induction zs with
 |nil=>intro us r;cases r;exact .nil
 |cons z zs ih=>
  intro us r
  cases r with
  |cons r1 r2=>
   obtain⟨t,rfl⟩:=r1
   exact .cons z t (ih r2)
theorem zz2:MtR X "str.join" (fun x xs H Q=>∃z p zs,x=.str z∧xs=[.ref p]∧SqL X.K H p (zs.map V.str)∧(zs.map (·.length)).sum+zs.length*z.length≤16777216∧Q (.str (Txt.join z zs)) H):=by
 intro pins s σ H x xs v us Q I rx rs h
 obtain⟨z,p,zs,rfl,rfl,hq,hz,q⟩:=h
 obtain⟨t,rfl⟩:=rx
 obtain⟨u,rfl,ru⟩:=zw8 rs
 cases ru
 obtain⟨its,r,pl,_⟩:=I.list hq
 exact join_list pl.isList (by simpa using strs_of r) hz fun t' k=>⟨.str _,H,I.tok k,⟨_,rfl⟩,q⟩
end
theorem ObjOk.there{P:Program}{w:World}{H:Hp}{h:Heap}{a:Addr}{o:HO}(x:ObjOk P w H h a o):∃ob,h.get? a=some ob:=by
 cases o with
 |lst xs=>obtain⟨_,_,_,_,e⟩:=x;exact⟨_,e⟩
 |tup xs=>obtain⟨_,_,_,o,e,_⟩:=x;exact⟨_,e⟩
 |dK kvs=>obtain⟨_,_,_,_,o,_,_,e,_⟩:=x;exact⟨_,e⟩
 |dT kvs=>obtain⟨_,_,_,_,o,_,_,e,_⟩:=x;exact⟨_,e⟩
 |set S n=>obtain⟨o,_,_,_,e,_⟩:=x;exact⟨_,e⟩
 |ins C dx fs=>obtain⟨_,_,_,e,_⟩:=x;exact⟨_,e⟩
 |own y=>exact x
 |xd fs=>obtain⟨_,⟨_,_,_,e,_⟩,_⟩:=x;exact⟨_,e⟩
 |rng lo hi=>obtain⟨_,_,_,e⟩:=x;exact⟨_,e⟩
 |frz ob u=>obtain⟨e,_⟩:=x;exact⟨_,e⟩
 |tbl ps=>exact⟨_,show h.get? a=some _ from x⟩
 |met f y=>exact⟨_,show h.get? a=some _ from x⟩
 |ext φ=>obtain⟨_,e,_⟩:=x;exact e
abbrev zk0:List Value:=[.type "ValueError",.type "Exception",.type "BaseException",.type "object"]
def ExcOk(K:PySem.W.Frag)(C:Addr):Prop:=PySem.W.excIn K C zk0 "ValueError.__new__"=true
theorem ExcOk.obj{K:PySem.W.Frag}{C:Addr}{h:Heap}(q:ExcOk K C)(X:K.In h):∃bm N nm qn bs hd sn sub ab col dd k0 k1 k2 k3 k5 mN,
  h.get? C=some (excClassObj nm qn C N bs bm hd sn sub ab col dd k0 k1 k2 k3 k5 "ValueError.__new__")∧h.Ns N mN∧mN "__init__"=none∧OwnTail h zk0 bm:=by
 unfold ExcOk PySem.W.excIn at q
 split at q
 ·rename_i dd cd sl ho
  split at q
  ·rename_i C' bm k0 k1 k2 k3 n k5 hm hs
   rw[Bool.and_eq_true,Bool.and_eq_true,Bool.and_eq_true,Bool.and_eq_true,Bool.and_eq_true] at q
   obtain⟨⟨⟨⟨⟨z1,z2⟩,z3⟩,z4⟩,z5⟩,z6⟩:=q
   obtain rfl:=beq_iff_eq.mp z1
   obtain rfl:=beq_iff_eq.mp z2
   have z3':=(Bool.not_eq_true' _).mp z3
   have z6':=beq_iff_eq.mp z6
   obtain⟨nm,bs,mro,ns,qn,hd,sn,sub,ab,col,del⟩:=cd
   obtain⟨sl⟩:=sl
   obtain rfl:sl=_:=hs
   obtain rfl:mro=_:=hm
   obtain rfl:del=false:=z3'
   exact⟨bm,ns,nm,qn,bs,hd,sn,sub,ab,col,dd,k0,k1,k2,k3,k5,_,X _ _ ho,.of_isNs (PySem.W.isNs_of_in X z5),PySem.W.nsMap_none_of_in X z5 z6',PySem.W.tail_of_in X z4⟩
  ·cases q
 ·cases q
def PassS(CX:CXT)(X:Cx)(ES:St→XK):Prop:=∀(pins:List (Addr×Obj)) (σ:St) (H:Hp) (s:Shared) (e:Value) (s':Shared),Inv X pins σ H s→CX X.stack H s (ES σ) e s'→X.xe e s'
def tCallS(sp:Sp)(ES:St→XK)(t:TA):TE:=fun σ H Q=>t σ H fun vs H1=>sp vs H1 Q (ES σ)
section
variable {X:Cx}{CX:CXT}{k:Nat}{f:Addr}{fd:FuncData}{ps:List Str}{sp:Sp}{ES:St→XK}{x:Str}{p pos:Pos}{e:Expr}{es:List Expr}{t:TA}
theorem yj4(F:FnOk X.prog X.w X.K X.mg X.base CX k f fd ps sp)(hr:Room k X.A)(hg:Gl X x)(hm:X.mg x=some (.ref f))(hk:PySem.W.keepIn X.K (.ref f)=true)(hb:Binds X.K fd ps [])(hx:PassS CX X ES)
  (ha:PA X (e::es) t) (hdb:(x==("__debug__":Str))=false:=by decide) (he:starEach (e::es) X.env=(false,eval e X.env)::starEach es X.env:=by rfl) (hpl:(backTo pos (starEach es X.env)).any (·.1)=false:=by rfl):
  PE X (.Call (.Name x p) (e::es) [] pos) (tCallS sp ES t):=by
 intro pins s σ H Q I h
 refine wpAny_Call_Name_kw (zn6 I hg hm ?_ hdb)
 refine PySem.W.callWith_K (h₀:=X.base) I.ok.mod.kin hk (thn (ha pos pins s σ H _ I h) fun us s1 ⟨vs,H1,I1,r,q⟩=>⟨I1.kIn,?_⟩) he hpl
 have hl:us.length=ps.length:=by rw[←r.length];exact F.len _ _ _ _ q
 have hbs:=hb s1 us I1.kIn (by rw[List.append_nil];exact hl)
 rw[List.append_nil] at hbs
 refine wpAny_call (codeAny_mono (F.run X.A X.stack s1 H1 ⟨us,[]⟩ us vs Q (ES σ) hr I1.env0 hbs r q) fun r s' hq=>?_)
 cases r with
 |error e=>exact hx pins σ H1 s1 e s' I1 hq
 |ok fl=>
  cases fl with
  |ret u=>exact I1.after hq
  |next=>exact False.elim hq
  |brk=>exact False.elim hq
  |cont=>exact False.elim hq
end
abbrev Cx.tried(X:Cx)(E:Value→Shared→Prop)(pn:List (Addr×Obj)):Cx:={ X with xe:=E,pn:=pn }
abbrev Cx.suite(X:Cx)(A:Around)(pn:List (Addr×Obj)):Cx:={ X with A:=A,calm:=false,xe:=fun _ _=>False,pn:=pn }
section
variable {X:Cx}{pins:List (Addr×Obj)}{σ:St}{H:Hp}{s:Shared}{E:Value→Shared→Prop}
theorem Cx.Ok.tried(ok:X.Ok)(E:Value→Shared→Prop)(pn:List (Addr×Obj)):(X.tried E pn).Ok:=
 ⟨ok.mod,ok.kind,ok.glob,ok.blt,ok.above,ok.inj,ok.has,ok.cab,ok.hd,ok.frames,ok.stk,ok.exf,ok.bs,ok.bsz,ok.noex,ok.exfs,ok.funs,ok.frf⟩
theorem Cx.Ok.untried{pn:List (Addr×Obj)}(ok:(X.tried E pn).Ok):X.Ok:=
 ⟨ok.mod,ok.kind,ok.glob,ok.blt,ok.above,ok.inj,ok.has,ok.cab,ok.hd,ok.frames,ok.stk,ok.exf,ok.bs,ok.bsz,ok.noex,ok.exfs,ok.funs,ok.frf⟩
theorem Cx.Ok.suite(ok:X.Ok){A:Around}(hA:A.frames=X.A.frames)(pn:List (Addr×Obj)):(X.suite A pn).Ok:=
 ⟨ok.mod,ok.kind,ok.glob,ok.blt,ok.above,ok.inj,ok.has,ok.cab,(fun z=>nomatch z),hA.trans ok.frames,ok.stk,ok.exf,ok.bs,ok.bsz,ok.noex,ok.exfs,ok.funs,ok.frf⟩
theorem Cx.Ok.unsuite{A:Around}{pn:List (Addr×Obj)}(ok:(X.suite A pn).Ok)(ok0:X.Ok):X.Ok:=ok0
theorem Inv.tried(I:Inv X pins σ H s)(E:Value→Shared→Prop):Inv (X.tried E (X.pn++pins)) [] σ H s:=
 ⟨I.ok.tried E _,I.os,I.bare,I.base,I.loc,I.cell,I.free,I.freeC,fun p hp=>I.pin p (by simpa using hp),I.hok,I.len⟩
theorem Inv.untried{pins':List (Addr×Obj)}(I:Inv (X.tried E (X.pn++pins)) pins' σ H s):Inv X pins σ H s:=
 ⟨I.ok.untried,I.os,I.bare,I.base,I.loc,I.cell,I.free,I.freeC,fun p hp=>I.pin p (List.mem_append_left _ hp),I.hok,I.len⟩
theorem Inv.suite{A:Around}(I:Inv X pins σ H s)(hA:A.frames=X.A.frames):Inv (X.suite A (X.pn++pins)) [] σ H s:=
 ⟨I.ok.suite hA _,I.os,I.bare,I.base,I.loc,I.cell,I.free,I.freeC,fun p hp=>I.pin p (by simpa using hp),I.hok,I.len⟩
theorem Inv.unsuite{A:Around}{pins':List (Addr×Obj)}(I:Inv (X.suite A (X.pn++pins)) pins' σ H s)(ok:X.Ok):Inv X pins σ H s:=
 ⟨ok,I.os,I.bare,I.base,I.loc,I.cell,I.free,I.freeC,fun p hp=>I.pin p (List.mem_append_left _ hp),I.hok,I.len⟩
theorem name_goes{M:Model}{A:Around}{i:Nat}{n:Str}{pos:Pos}{Q:Unit→Shared→Prop}(I:Inv X pins σ H s)(hN:X.N.Nodup)(hi:X.N[i]? = some n)(hl:X.env.scope.names.lookup n=some .local)
  (h:∀s',Inv X pins (σ.set i none) H s'→Q () s'):wpAny M A (do bindName X.env n .none;unbindBehindTheSuite X.env n pos) Q E s:=by
 obtain⟨m,hn,hloc⟩:=id I.loc
 have hcls:(X.env.scope.kind==.class||(X.env.scope.kind==.module&&X.env.locals != X.env.globals))=false:=by rw[I.ok.kind];rfl
 obtain⟨oL,_,_,hoL,_⟩:=id hn
 refine wpAny_nameGoes_keeps hl hn hcls fun h' v hn' hs=>?_
 have ne:∀b o,X.s₀.heap.get? b=some o→b≠X.env.locals:=fun b o e=>Nat.ne_of_lt (Nat.lt_of_lt_of_le (Heap.lt_size e) I.ok.above)
 refine h _ ⟨I.ok,I.os,I.bare,⟨fun b o e nn hb hx=>(hs.2 b (ne b o e)).trans (I.base.keep b o e nn hb hx),fun b o e nn hb hx=>?_,I.base.free,fun b o e hx=>?_,I.base.tups,I.base.frzs,I.base.tbls⟩,⟨_,hn',fun j y w' e1 e2 e3=>?_⟩,fun y c e=>?_,I.free,I.freeC,fun p hp=>?_,fun b ob e=>?_,by simpa using I.len⟩
 ·obtain⟨sl,e1⟩:=I.base.slot b o e nn hb hx
  exact⟨sl,(hs.2 b (ne b o e)).trans e1⟩
 ·obtain⟨o',e1⟩:=I.base.there b o e hx
  exact⟨o',(hs.2 b (ne b o e)).trans e1⟩
 ·by_cases hj:j=i
  ·subst hj
   have hlt:j<σ.length:=by rw[I.len];exact(List.getElem?_eq_some_iff.mp hi).1
   rw[List.getElem?_set_self hlt] at e2
   cases e2
  ·rw[List.getElem?_set_ne (Ne.symm hj)] at e2
   obtain⟨u',r',q⟩:=hloc j y w' e1 e2 e3
   refine⟨u',r',?_⟩
   rcases q with⟨k,e⟩|⟨k,c,e,z⟩
   ·refine .inl ⟨k,?_⟩
    have hne:y≠n:=fun e=>hj (zz1 hN e1 (e▸hi))
    show(if y=n then v else m y)=_
    rw[if_neg hne]
    exact e
   ·exact .inr ⟨k,c,e,z.sameBut hs (I.cne y c e)⟩
 ·obtain⟨w',z⟩:=I.cell y c e
  exact⟨w',z.sameBut hs (I.cne y c e)⟩
 ·obtain⟨e,nn,nee,nf,d⟩:=I.pin p hp
  exact⟨(hs.2 p.1 nee).trans e,nn,nee,nf,d⟩
 ·refine(I.hok b ob e).stay (fun c u hc q=>(hs.2 c ?_).trans q) (fun _ q=>q) fun _ _ q=>q
  rintro rfl
  rcases hc with z|z
  ·rw[←z,I.free] at e;cases e
  ·rw[I.free] at z;cases z
end
def excO(a:Addr)(cls:Value):HO:=.ext fun h=>∃o vs,h.get? a=some o∧o.cls=cls∧o.data=.fields vs
section
variable {X:Cx}{d:Addr}{vs:List (Key×Value)}
def NoSl(i:Expr):Prop:=∀ov iv,subscripted i false ov iv=operate [ov,iv] (getItem ov iv)
theorem subD_of{prog:Program}{w:World}{A:Around}{E:Value→Shared→Prop}{s:Shared}{env:Env}{value slice:Expr}{pos:Pos}{T id:String}{Q:Value→Shared→Prop}
  (hl:typeLookup (.type T) "__getitem__"=pure (some (.builtin id))) (hs:NoSl slice)
  (h:wpAny (model prog w) A (eval value env) (fun o s₁=>wpAny (model prog w) A (eval slice env) (fun i s₂=>s₂.TypeIs o T∧wpAny (model prog w) A (getItem o i) Q E s₂) E s₁) E s):
  wpAny (model prog w) A (eval (.Subscript value slice pos) env) Q E s:=by
 refine Subscript_ (wpAny_mono h (fun o s₁ h₁=>wpAny_mono h₁ (fun i s₂ h₂=>?_) fun _ _ x=>x) fun _ _ x=>x)
 obtain⟨hT,h₂⟩:=h₂
 unfold subscriptTail
 refine wpAny_bind ?_
 rw[getitemInPython_of_ne hT.not_modules]
 refine wpAny_bind (wpAny_specialOf hT hl ?_)
 have fin:wpAny (model prog w) A (subscripted slice false o i) (fun r s₃=>wpAny (model prog w) A (letTemporaryGo value o r >>= fun _=>pure r) Q E s₃) E s₂:=by
  rw[hs o i]
  exact wpAny_operating (wpAny_mono h₂ (fun r s₃ h₃=>wpAny_bind (wpAny_letTemporaryGo (wpAny_pure h₃))) fun _ _ x=>x)
 first
  |exact wpAny_pure (wpAny_bind fin)
  |exact wpAny_bind (wpAny_pure (wpAny_bind fin))
  |exact wpAny_bind fin
end
end L2
namespace PySem.W
open PySem PySem.Calls PyProof.Rows Builtin Builtin.ObjectAttr Builtin.Getset_descriptor
section
variable {prog:Program}{w:World}{A:Around}{E:Value→Shared→Prop}{s:Shared}{K:Frag}{x D:Addr}{name:Str}
theorem exq_find{M:Model}{h:Heap}(X:K.In h){a g:Value}(ha:findIn K (.ref D) name=some (some a))(hg:specialIn K a "__get__"=some (some g))(hd:takesIn K a=some true):
  Looks M h (find (.ref x) (.ref D) name) (.bind g a):=by
 have L1:=looks_findIn (M:=M) X ha
 have L2:Looks M h (getOf (some a)) (some g):=looks_specialIn X hg
 have L3:=looks_takesIn (M:=M) X hd
 exact L1.andThen (L2.andThen ((show Looks M h (dataDescriptor? (some a) (some g)) (some (g,a)) from L3.andThen .now).andThen (Looks.tag .now)))
theorem yd2{M:Model}{v:Value}{Q:Unit→Shared→Prop}(X:K.In s.heap)(L0:Looks M s.heap (typeOf (.ref x)) (.ref D))(hb:mroIn K D (.type "BaseException")=some true)(hq:Q () s):
  wpAny M A (checkBuiltinCall "BaseException.__getattribute__" ⟨[.ref x,v],[]⟩) Q E s:=by
 obtain⟨hh,g,d,t,os⟩:=s
 have L1:Looks M hh (isInstance (.ref x) (.type "BaseException")) true:=L0.andThen (looks_mroIn X hb)
 have e1:builtinKind "BaseException.__getattribute__"=some .slot:=by decide +kernel
 have e2:splitId "BaseException.__getattribute__"=some ("BaseException","__getattribute__"):=by decide +kernel
 have ok:=F.args_bexc_ga (.ref x) v
 simp only[checkBuiltinCall,e1,e2]
 refine wpAny_bind (L1.at ?_)
 simp only[Bool.not_true,Bool.false_eq_true,if_false]
 repeat (first|assumption|wp_step)
theorem exq_code{g a:Value}{tk:Tok}{R:Result→Shared→Prop}(X:K.In s.heap)(L0:Looks (model prog w) s.heap (typeOf (.ref x)) (.ref D))(L1:Looks (model prog w) s.heap (find (.ref x) (.ref D) name) (.bind g a))(hb:mroIn K D (.type "BaseException")=some true)
  (h:wpAny (model prog w) A.in1 (call g [a,.ref x,.ref D]) (fun v s'=>R (.ok (.ret v)) s') (fun e s'=>R (.error e) s') s):
  codeAny (model prog w) A (.call (.builtin "BaseException.__getattribute__") ⟨[.ref x,.str name tk],[]⟩) R s:=by
 refine codeAny_call_builtin F.attr_ValueError.ga.plain F.entry_bexc_ga (yd2 X L0 hb ?_)
 obtain⟨hh,gg,d,t,os⟩:=s
 unfold Builtin.«object.__getattribute__»
 refine wpAny_bind (wpAny_of_eq (a:=(Value.ref x,[Value.str name tk])) rfl ?_)
 refine wpAny_bind (wpAny_of_eq (a:=name) rfl (wpAny_bind (L0.at (wpAny_bind (L1.at ?_)))))
 show wpAny _ _ (holding [a] (call g [a,.ref x,.ref D]) >>= ret) _ _ _
 exact wpAny_bind (wpAny_holding (wpAny_mono h (fun v s' z=>wpAny_pure z) fun _ _ z=>z))
theorem exq_open{g a:Value}{Q:Option Value→Shared→Prop}{r:Value}(X:K.In s.heap)(L0:Looks (model prog w) s.heap (typeOf (.ref x)) (.ref D))(L1:Looks (model prog w) s.heap (find (.ref x) (.ref D) name) (.bind g a))
  (hga:findIn K (.ref D) "__getattribute__"=some (some (.builtin "BaseException.__getattribute__"))) (hgh:findIn K (.ref D) "__getattr__"=some none) (hb:mroIn K D (.type "BaseException")=some true) (hr:handedIn r=true)
  (h:∀(A':Around) (P:Value→Shared→Prop) (E':Value→Shared→Prop),P r { s with toks:=s.toks+1 }→wpAny (model prog w) A' (call g [a,.ref x,.ref D]) P E' { s with toks:=s.toks+1 }) (hq:Q (some r) { s with toks:=s.toks+1 }):
  wpAny (model prog w) A (getAttr? (.ref x) name) Q E s:=by
 obtain⟨hh,gg,d,t,os⟩:=s
 have La:=looks_findIn (M:=model prog w) X hga
 have Lh:=looks_findIn (M:=model prog w) X hgh
 have ne:(Value.builtin "BaseException.__getattribute__"==Value.builtin "object.__getattribute__")=false:=by decide +kernel
 unfold getAttr? getAttrBy? getAttrBy
 refine wpAny_bind (wpAny_mkText (wpAny_bind (wpAny_attempt (wpAny_holding (wpAny_bind (L0.at (wpAny_bind (La.at ?_))))))))
 dsimp only
 rw[ne,Bool.and_false,if_neg Bool.false_ne_true]
 refine wpAny_bind (m:=hookBefore (.ref D)) (show wpAny _ _ (typeLookup (.ref D) "__getattr__") _ _ _ from Lh.at ?_)
 refine wpAny_bind (wpAny_attempt (wpAny_holding ?_))
 show wpAny _ _ (boundAndCalled (.builtin "BaseException.__getattribute__") (.ref x) (.str name _)) _ _ _
 unfold boundAndCalled
 refine wpAny_bind (wpAny_of_eq (F.attr_ValueError.ga.bind (.ref x)) (wpAny_call (exq_code X L0 L1 hb (h _ _ _ ?_))))
 show wpAny _ _ (handedOut r) _ _ _
 exact handed_on hr (wpAny_pure hq)
theorem exq_get{R:Result→Shared→Prop}{tp:Value}(X:K.In s.heap)(L0:Looks (model prog w) s.heap (typeOf (.ref x)) (.ref D))(hm:mroIn K D (.type "object")=some true)
  (h:R (.ok (.ret (.ref D))) s):codeAny (model prog w) A (.call (.builtin "getset_descriptor.__get__") ⟨[.builtin "object.__class__",.ref x,tp],[]⟩) R s:=by
 obtain⟨hh,g,dr,t,os⟩:=s
 have L1:=looks_mroIn (M:=model prog w) X hm
 refine codeAny_call_builtin KF.slot_gs.plain KF.entry_gs (KF.slot_gs.check _ _ _ _ _ _ _ _ KF.type_class (KF.args_gs _ _ _) ?_)
 unfold Builtin.«getset_descriptor.__get__» descrGet
 rw[dga_obj]
 refine wpAny_bind (wpAny_pure ?_)
 unfold descrGetter descrCheckInstance descrNameAndClass isInstance
 simp only[KF.owner_class]
 repeat lk
 refine⟨Code.quiet_builtin _ (by decide +kernel),codeAny_builtin KF.entry_class ?_⟩
 unfold Builtin.«object.__class__» shownTypeOf
 repeat lk
 exact h
structure ExqCls(K:Frag)(D:Addr):Prop where
 ga:findIn K (.ref D) "__getattribute__"=some (some (.builtin "BaseException.__getattribute__"))
 gh:findIn K (.ref D) "__getattr__"=some none
 hb:mroIn K D (.type "BaseException")=some true
 hd:(clsIn K D).isSome=true
 ha:findIn K (.ref D) "__class__"=some (some (.builtin "object.__class__"))
 hn:specialIn K (.builtin "object.__class__") "__get__"=some (some (.builtin "getset_descriptor.__get__"))
 ht:takesIn K (.builtin "object.__class__")=some true
 hm:mroIn K D (.type "object")=some true
theorem kitx_exq(Z:ExqCls K D):KitX K (.ref x) (.ref D) (fun h=>∃o,h.get? x=some o∧o.cls=.ref D) where
 ty:=fun _ _ _ ⟨o,h1,h2⟩=>h2▸(Looks.ld h1).andThen .now
 it:=fun _ _ X _=>by
  have hcD:=Z.hd
  unfold clsIn at hcD
  split at hcD
  ·rename_i c' d' cd' sl' ho
   intro A' Q' E' s' k q
   unfold isType loadHead
   exact wpAny_bind (wpAny_loadPart (k _ _ (X _ _ ho)) (wpAny_pure q))
  ·cases hcD
 ne:=fun h tp dd its n sl X htp=>by
  have hcD:=Z.hd
  refine Bool.eq_false_iff.mpr fun q=>?_
  have e:D=tp:=Value.ref.inj (beq_iff_eq.mp q)
  subst e
  unfold clsIn at hcD
  split at hcD
  ·rename_i c' d' cd' sl' ho
   have z:=(X _ _ ho).symm.trans htp
   cases z
  ·cases hcD
 ca:=fun {prog w A E Q s} X p k=>by
  obtain⟨o,h1,h2⟩:=p
  have L0:∀(M:Model),Looks M s.heap (typeOf (.ref x)) (.ref D):=fun M=>h2▸(Looks.ld h1).andThen .now
  exact exq_open X (L0 _) (exq_find X Z.ha Z.hn Z.ht) Z.ga Z.gh Z.hb rfl (fun A' P E' hp=>wpAny_call (exq_get (s:={ s with toks:=s.toks+1 }) X (L0 _) Z.hm hp)) k
end
end PySem.W
namespace L2
open PySem PySem.Spec PyProof.Rows
inductive TyE(K:PySem.W.Frag)(H:Hp):V→Value→Prop where
 |of {x:V} {t:Value} (h:TyOf K H x t):TyE K H x t
 |exc {a C:Addr} (e:H a=some (excO a (.ref C))) (Z:PySem.W.ExqCls K C):TyE K H (.ref a) (.ref C)
def clsV:V→Option Value
 |.ref a=>some (.ref a)
 |.ty n=>some (.type n)
 |_=>none
section
variable {X:Cx}
theorem yl0:CallR X (.builtin "isinstance") (fun xs H Q=>∃x c t cv b,xs=[x,c]∧TyE X.K H x t∧clsV c=some cv∧PySem.W.kitOne X.K t cv=some b∧Q (.bl b) H):=by
 intro pins s σ H xs us Q I rs h
 obtain⟨x,c,t,cv,b,rfl,ty,hc,hk,q⟩:=h
 obtain⟨u,uc,rfl,ru,rc⟩:=vals2 rs
 have ec:uc=cv:=by
  cases c with
  |ref a=>exact(show uc=Value.ref a from rc).trans (Option.some.inj hc)
  |ty n=>exact(show uc=Value.type n from rc).trans (Option.some.inj hc)
  |_=>cases hc
 subst ec
 cases ty with
 |of ty=>exact isinst_ok I ru ty hk fun tk=>⟨.bl b,H,I.tok tk,rfl,q⟩
 |@exc a C e Z=>
  cases(show u=Value.ref a from ru)
  obtain⟨⟨o,vs,h1,h2,_⟩,_⟩:=(show ObjOk X.prog X.w H s.heap a (excO a (.ref C)) from I.hok a _ e)
  exact PySem.W.kia_one (PySem.W.kitx_exq Z) I.kIn ⟨o,h1,h2⟩ hk (fun z=>nomatch z) fun tk=>⟨.bl b,H,I.tok tk,rfl,q⟩
end
theorem yk0{K:PySem.W.Frag}{t:Value}:PySem.W.kitOne K t t=some true:=by
 unfold PySem.W.kitOne
 rw[if_pos (beq_self_eq_true t)]
open PySem PySem.Spec PyProof.Rows PySem.Builtin PySem.Builtin.Str
section
variable {X:Cx}
theorem zq1 {lo : Int} {n : Nat} {D : Addr} {τ : St} {te : TE} {H : Hp} {Q : Hp → Prop} (Pv : Nat → Hp → List V → Prop) (h0 : Pv 0 (upd H D (.lst [])) [])
    (hs : ∀ i H ys, i < n → Pv i H ys → te (some (.int (lo + i)) :: τ) H fun y H5 => H5 D = some (.lst ys) ∧ ys.length < sizeLine ∧ Pv (i + 1) (upd H5 D (.lst (ys ++ [y]))) (ys ++ [y]))
    (hd : ∀ H ys, Pv n H ys → Q H) :
    ∃ W : Nat → Nat → Hp → List V → Prop, (∃ m, W 0 m (upd H D (.lst [])) []) ∧ ∀ i m H' ys, W i m H' ys →
      ((Itr lo n).stop i H' ∧ Q H') ∨ ((Itr lo n).go i H' ∧ ∃ N : Hp → List V → Prop, (∀ H' ys', N H' ys' → ∃ m', m' < m ∧ W (i + 1) m' H' ys') ∧ ∀ x H2, (Itr lo n).yld i H' x H2 → tNoIf (some x :: τ) H2 fun b H4 =>
        if b = true then te (some x :: τ) H4 fun y H5 => H5 D = some (.lst ys) ∧ ys.length < sizeLine ∧ N (upd H5 D (.lst (ys ++ [y]))) (ys ++ [y])
        else N H4 ys) := by
  refine ⟨fun i m H ys => m = n - i ∧ i ≤ n ∧ Pv i H ys, ⟨n, by simp, Nat.zero_le _, h0⟩, ?_⟩
  rintro i m H ys ⟨rfl, hi, p⟩
  by_cases hlt : i < n
  · refine .inr ⟨hlt, Pv (i + 1), fun H' ys' p' => ⟨n - (i + 1), by omega, rfl, hlt, p'⟩, fun x H' y => ?_⟩
    obtain ⟨e, y⟩ := y
    subst e y
    exact hs i _ ys hlt p
  · have e : i = n := by omega
    subst e
    exact .inl ⟨Nat.le_refl _, hd H ys p⟩
end
def ClIn(cells:List (Str×Addr)):List (Str×Addr)→Prop
 |[]=>True
 |p::r=>cells.lookup p.1=some p.2∧ClIn cells r
def OutOk(X:Cx)(scope:Scope)(cl:List (Str×Addr)):List Str→List Nat→Prop
 |[],[]=>True
 |y::ys,j::js=>(X.N[j]? = some y∧(X.env.kindOf y=some .cell∨X.env.kindOf y=some .free)∧(∃c,cl.lookup y=some c)∧
   ((relabel scope X.env).names.lookup y=some .cell∨(relabel scope X.env).names.lookup y=some .free))∧OutOk X scope cl ys js
 |_,_=>False
theorem OutOk.len{X:Cx}{scope:Scope}{cl:List (Str×Addr)}:∀ {ys:List Str} {js:List Nat},OutOk X scope cl ys js→ys.length=js.length
 |[],[],_=>rfl
 |_::_,_::_,h=>congrArg (· + 1) (OutOk.len h.2)
 |[],_::_,h=>h.elim
 |_::_,[],h=>h.elim
theorem OutOk.get{X:Cx}{scope:Scope}{cl:List (Str×Addr)}:∀ {ys:List Str} {js:List Nat},OutOk X scope cl ys js→∀(k j:Nat),js[k]? = some j→∃y,ys[k]? = some y∧X.N[j]? = some y∧(X.env.kindOf y=some .cell∨X.env.kindOf y=some .free)∧(∃c,cl.lookup y=some c)∧
  ((relabel scope X.env).names.lookup y=some .cell∨(relabel scope X.env).names.lookup y=some .free)
 |[],[],_,k,j,e=>by simp at e
 |y::_,j'::_,h,0,j,e=>by
  have e':j'=j:=by simpa using e
  subst e'
  exact⟨y,rfl,h.1⟩
 |_::_,_::_,h,k+1,j,e=>by
  obtain⟨y,h1,h2⟩:=OutOk.get h.2 k j (by simpa using e)
  exact⟨y,by simpa using h1,h2⟩
 |[],_::_,h,_,_,_=>h.elim
 |_::_,[],h,_,_,_=>h.elim
theorem ClIn.get{cells:List (Str×Addr)}:∀ {cl:List (Str×Addr)},ClIn cells cl→∀y c,cl.lookup y=some c→cells.lookup y=some c:=by
 intro cl h y c e
 have hm:(y,c)∈cl:=PySem.mem_of_lookup e
 clear e
 induction cl with
 |nil=>cases hm
 |cons p r ih=>
  rcases List.mem_cons.mp hm with z|z
  ·rw[←z] at h;exact h.1
  ·exact ih h.2 z
def hasAll(names:List (Str×NameKind))(cl:List (Str×Addr)):Bool:=names.all fun y=>(y.2 != .cell&&y.2 != .free)||(cl.lookup y.1).isSome
theorem zl3{X:Cx}{scope:Scope}{cl:List (Str×Addr)}{x:Str}{ys:List Str}{js:List Nat}(clos:closureFor scope X.env=pure cl)(ci:ClIn X.env.cells cl)(nocell:∀y∈scope.names,y.2≠.cell)(kind:scope.kind=.function)
  (locs:∀y∈scope.names,y.2=.local→scope.names.lookup y.1=some .local) (own:scope.names.lookup x=some .local) (nd:(x::ys).Nodup) (has:hasAll (relabel scope X.env).names cl=true) (o:OutOk X scope cl ys js):CompScope X scope cl x ys js:=by
 refine⟨clos,ci.get,nocell,kind,locs,own,nd,fun y h=>?_,o.len,o.get⟩
 have hh:=List.all_eq_true.mp has
 have fin:∀k,(y,k)∈(relabel scope X.env).names→(k=.cell∨k=.free)→∃c,cl.lookup y=some c:=fun k hm hk=>by
  have z:=hh _ hm
  rw[Bool.or_eq_true] at z
  rcases z with z|z
  ·rw[Bool.and_eq_true] at z
   rcases hk with rfl|rfl
   ·exact absurd (show(NameKind.cell != NameKind.cell)=true from z.1) (by decide)
   ·exact absurd (show(NameKind.free != NameKind.free)=true from z.2) (by decide)
  ·exact Option.isSome_iff_exists.mp z
 rcases h with h|h
 ·exact fin _ (PySem.mem_of_lookup h) (.inl rfl)
 ·exact fin _ (PySem.mem_of_lookup h) (.inr rfl)
section
variable {X:Cx}{es:List Expr}{te:TE}{t:TA}{p:Pos}
theorem yj6{c:Const}{j:Nat}(ha:PE X (.Constant c j p) te)(hr:PA X es t):PA X (.Constant c j p::es) (zm8 te t):=zl1 ha hr rfl
theorem pa_name{x:Str}(ha:PE X (.Name x p) te)(hr:PA X es t):PA X (.Name x p::es) (zm8 te t):=zl1 ha hr rfl
theorem pa_bin{a b:Expr}{op:Operator}(ha:PE X (.BinOp a op b p) te)(hr:PA X es t):PA X (.BinOp a op b p::es) (zm8 te t):=zl1 ha hr rfl
theorem pa_call{f:Expr}{as:List Expr}{ks:List Keyword}(ha:PE X (.Call f as ks p) te)(hr:PA X es t):PA X (.Call f as ks p::es) (zm8 te t):=zl1 ha hr rfl
theorem pa_sub{a b:Expr}(ha:PE X (.Subscript a b p) te)(hr:PA X es t):PA X (.Subscript a b p::es) (zm8 te t):=zl1 ha hr rfl
theorem pa_tup{as:List Expr}{j:Nat}(ha:PE X (.Tuple as j p) te)(hr:PA X es t):PA X (.Tuple as j p::es) (zm8 te t):=zl1 ha hr rfl
theorem pa_attr{a:Expr}{x:Str}(ha:PE X (.Attribute a x p) te)(hr:PA X es t):PA X (.Attribute a x p::es) (zm8 te t):=zl1 ha hr rfl
end
section
variable {X:Cx}
theorem yd9:CallR X (.type "str") (fun xs H Q=>∃z,xs=[.str z]∧Q (.str z) H):=by
 intro pins s σ H xs us Q I r h
 obtain⟨z,rfl,q⟩:=h
 obtain⟨u,rfl,t,rfl⟩:=zw8 r
 exact PySem.P.str_of_str ⟨.str z,H,I,⟨_,rfl⟩,q⟩
theorem mt_index:MtR X "str.index" (fun x xs H Q=>∃z y i rest,x=.str z∧xs=[.str y]∧Builtin.Str.occurrences z y 0 z.length 1=i::rest∧Q (.int (i:Nat)) H):=by
 intro pins s σ H x xs v us Q I rx rs h
 obtain⟨z,y,i,rest,rfl,rfl,ho,q⟩:=h
 obtain⟨t,rfl⟩:=rx
 obtain⟨u,rfl,ru⟩:=zw8 rs
 obtain⟨t',rfl⟩:=ru
 exact call_gives F.slot_str_index (typeIs_str _ _ _) F.entry_str_index (F.args_str_index_2 _ _) (gives_str_index z y t t' i rest ho) ⟨.int i,H,I.tok _,⟨_,rfl⟩,q⟩
theorem zq4:SlR X (fun x lo hi H Q=>∃z,x=.str z∧(Txt.slice z lo hi).length≤sizeLine∧Q (.str (Txt.slice z lo hi)) H):=by
 intro pins s σ H x v vl vu lo hi sl Q I rx hs pl pu h
 obtain⟨z,rfl,hsz,q⟩:=h
 obtain⟨t,rfl⟩:=rx
 refine⟨"str",_,PySem.F.slot_str_getitem.lookup,typeIs_str _ _ _,?_⟩
 have hp:∀ {v:Value} {o:Option Int},IsPart v o→∃p:Option (Int×Tok),v=partValue p∧p.map (·.1)=o:=fun {v o} p=>by
  cases p with
  |none=>exact⟨none,rfl,rfl⟩
  |int i t=>exact⟨some (i,t),rfl,rfl⟩
 obtain⟨l,rfl,rfl⟩:=hp pl
 obtain⟨u,rfl,rfl⟩:=hp pu
 obtain⟨o,ho,hc,hd⟩:=hs
 refine wpAny_getItem_str_slice (l:=l) (u:=u) (st:=none) ⟨o,ho,hc,hd⟩ rfl ?_
 unfold sliceMade
 have hsz:(if((Option.map (fun x=>x.fst) (none:Option (Int×Tok))).getD 1==1&&(slicePicked z l u none).length==z.length)=true then z else⟨((slicePicked z l u none).filterMap fun x=>z.cps[x]?).toArray⟩:Str).length≤sizeLine:=hsz
 have q:Q (.str (if((Option.map (fun x=>x.fst) (none:Option (Int×Tok))).getD 1==1&&(slicePicked z l u none).length==z.length)=true then z else⟨((slicePicked z l u none).filterMap fun x=>z.cps[x]?).toArray⟩)) H:=q
 by_cases c:((Option.map (fun x=>x.fst) (none:Option (Int×Tok))).getD 1==1&&(slicePicked z l u none).length==z.length)=true
 ·rw[if_pos c] at q ⊢
  exact⟨.str z,H,I,⟨_,rfl⟩,q⟩
 ·rw[if_neg c] at q hsz ⊢
  exact⟨hsz,.str _,H,I.tok _,⟨_,rfl⟩,q⟩
def Its(x:Str):It:=⟨fun i _=>i<x.cps.size,fun i H v H'=>H'=H∧∃c,x.cps[i]? = some c∧v=.str ⟨#[c]⟩,fun i _=>i=x.cps.size⟩
theorem yh4 {P : Program} {w : World} {K : PySem.W.Frag} {tg : Expr} {n : String} (x : Str) (t : Tok) (it : Addr) (hn : ["enumerate", "zip", "dict_itemiterator", "dict_reverseitemiterator", "odict_iterator", "itertools.zip_longest", "itertools.pairwise"].contains n = false)
    (W : ∀ A' : Around, A'.handled = none → Walks P w A' it [it] [it] x.cps.size (SignAt x) (fun i h => h.IsStrIter it n x t i))
    (hself : ∀ (A : Around) (i : Nat) (s : Shared) (Q E : Value → Shared → Prop), s.heap.IsStrIter it n x t i → Q (.ref it) s → wpAny (model P w) A (pyIter (.ref it)) Q E s) : Turn P w K tg (Its x) [it] it (fun i h => h.IsStrIter it n x t i) where
  mem := by simp
  obj := fun i h st b hb => by
    have e : b = it := by simpa using hb
    subst e
    obtain ⟨o, e, c, d⟩ := st
    exact ⟨o, e, fun v z => by rw [d] at z; cases z⟩
  keep := fun i h h' st k => by
    obtain ⟨o, e, c, d⟩ := st
    exact ⟨o, k it (by simp) o e, c, d⟩
  item := by
    intro X hP hw hK hc i pins s σ H E I hf st hg
    subst hP hw hK
    obtain ⟨f0, f1, f2, f3, f4, f5⟩ := hf it (by simp)
    refine (W X.A (I.ok.hd hc)).item i s _ _ hg st fun v h' tk hv st' kk => ?_
    obtain ⟨c, u, hcc, rfl⟩ := hv
    have I1 : Inv X pins σ H { s with heap := h', toks := tk } := I.turned (fun b o hb e => kk b o (by simpa using hb) e) f0 f1 f3 f4 f5
    obtain ⟨o, e, oc, d⟩ := id st'
    exact ⟨_, rfl, go_of (s := { s with heap := h', toks := tk }) e oc d hn ⟨.str ⟨#[c]⟩, H, I1, ⟨u, rfl⟩, ⟨rfl, c, hcc, rfl⟩, st', fun b hb => (hf b hb).1⟩⟩
  done := by
    intro X hP hw hK hc i pins s σ H E I hf st hg
    subst hP hw hK
    obtain ⟨f0, f1, f2, f3, f4, f5⟩ := hf it (by simp)
    have hi : i = x.cps.size := hg
    subst hi
    exact (W X.A (I.ok.hd hc)).done s _ _ st fun h' tk kk => ⟨rfl, I.turned (fun b o hb e => kk b o (by simpa using hb) e) f0 f1 f3 f4 f5⟩
  self := hself
def iStr(tl:TE):TI:=fun σ H R=>tl σ H fun x H1=>∃z,x=.str z∧R (Its z) H1
theorem pi_str{tg l:Expr}{tl:TE}(hl:PE X l tl):PI X tg l (iStr tl):=by
 intro pins s σ H R I h
 refine thn (hl pins s σ H _ I h) fun v s1 ⟨x,H1,I1,r1,q1⟩=>?_
 obtain⟨z,rfl,q⟩:=q1
 obtain⟨t,rfl⟩:=r1
 have fin:∀(n:String),Turn X.prog X.w X.K tg (Its z) [s1.heap.objs.size] s1.heap.objs.size (fun i h=>h.IsStrIter s1.heap.objs.size n z t i)→PIE X pins σ tg R (.ref s1.heap.objs.size) { s1 with heap:=s1.heap.push { cls:=.type n,data:=.fields #[.str z t,.int 0 0] } }:=fun n T=>by
  refine⟨s1.heap.objs.size,[s1.heap.objs.size],_,_,H1,rfl,I1.kept (t':=s1.toks) fun b o e=>Heap.get?_push_of_some _ e,T,⟨_,Heap.get?_push_size _ rfl,rfl,rfl⟩,fun b hb=>?_,q⟩
  have e:b=s1.heap.objs.size:=by simpa using hb
  subst e
  exact I1.fpOk (Nat.le_refl _) (I1.hok.fresh (Nat.le_refl _))
 cases ha:z.cps.all fun x=>decide (x<128) with
 |true=>exact wpAny_pyIter_ascii ha (fin _ (yh4 z t _ (by decide) (fun A' h=>Walks.strAscii h _ z t) fun _ _ _ _ _ st q=>wpAny_pyIter_striter_ascii st q))
 |false=>exact wpAny_pyIter_wide ha (fin _ (yh4 z t _ (by decide) (fun A' h=>Walks.strWide h _ z t) fun _ _ _ _ _ st q=>wpAny_pyIter_striter_wide st q))
theorem for_str{z:Str}{g:TG}{tb:TS}{D:Ends}{σ:St}{H:Hp}(Pv:Nat→St→Hp→Prop)(h0:Pv 0 σ H)
  (hs:∀i c σ H,z.cps[i]? = some c→Pv i σ H→g (.str ⟨#[c]⟩) σ H fun σ2 H2=>tb { D with nx:=Pv (i+1),ct:=Pv (i+1),bk:=D.nx } σ2 H2) (hd:∀σ H,Pv z.cps.size σ H→D.nx σ H):
  ∃W:Nat→Nat→St→Hp→Prop,(∃m,W 0 m σ H)∧∀i m σ H,W i m σ H→
   ((Its z).stop i H∧D.nx σ H)∨((Its z).go i H∧∃N:St→Hp→Prop,(∀σ' H',N σ' H'→∃m',m'<m∧W (i+1) m' σ' H')∧∀x H',(Its z).yld i H x H'→g x σ H' fun σ2 H2=>tb { D with nx:=N,ct:=N,bk:=D.nx } σ2 H2):=by
 refine⟨fun i m σ H=>m=z.cps.size - i∧i≤z.cps.size∧Pv i σ H,⟨z.cps.size,by simp,Nat.zero_le _,h0⟩,?_⟩
 rintro i m σ H ⟨rfl,hi,p⟩
 by_cases hlt:i<z.cps.size
 ·refine .inr ⟨hlt,Pv (i+1),fun σ' H' p'=>⟨z.cps.size - (i+1),by omega,rfl,hlt,p'⟩,fun x H' y=>?_⟩
  obtain⟨e,c,hc,rfl⟩:=y
  subst e
  exact hs i c σ _ hc p
 ·have e:i=z.cps.size:=by omega
  subst e
  exact .inl ⟨rfl,hd σ H p⟩
end
section
variable {P:Program}{w:World}{K:PySem.W.Frag}{mg:Str→Option Value}{base:Heap}
theorem Fun.okG{CX:CXT}{x qual:Str}{st:Stmt}{f:Addr}{fd:FuncData}{N ps:List Str}{k:Nat}{sp:Sp}(F:Fun K x qual st f fd)(S:FnScope N ps (zb2 st))(len:∀vs H Q E,sp vs H Q E→vs.length=ps.length)
  (hbody:∀(cdv:Value) (A:Around) (outer:List Env) (s:Shared) (H:Hp) (vs:List V) (Q:VK) (E:XK),Room k (A.deeper (envOfC qual (zb2 st) s.heap.objs.size f cdv))→sp vs H Q E→
   ∃t,PSs (yd5 CX P w K mg base N qual (zb2 st) f cdv A outer s H E) (zj8 st) t∧t { nx:=fun _ H'=>Q .non H',rt:=Q } (start N vs) H):FnOk P w K mg base CX (k+1) f fd ps sp:=by
 obtain⟨oc,od,kV,doc,pm,an,cdv,ct,osl,rfl,lk,hcd⟩:=F.ex
 exact fn_of lk hcd S len fun A outer s H vs Q E hr hsp=>hbody cdv A outer s H vs Q E hr hsp
end
structure QE(X:Cx)(e:Expr)(t:TE):Prop where
 out:PE X e t
theorem QE_eq:QE=PE:=by
 funext X e t
 exact propext ⟨fun h=>h.out,fun h=>⟨h⟩⟩
structure QT(X:Cx)(e:Expr)(t:TT):Prop where
 out:PT X e t
theorem QT_eq:QT=PT:=by
 funext X e t
 exact propext ⟨fun h=>h.out,fun h=>⟨h⟩⟩
structure QW(X:Cx)(e:Expr)(t:TT):Prop where
 out:PW X e t
theorem QW_eq:QW=PW:=by
 funext X e t
 exact propext ⟨fun h=>h.out,fun h=>⟨h⟩⟩
structure QA(X:Cx)(es:List Expr)(t:TA):Prop where
 out:PA X es t
theorem QA_eq:QA=PA:=by
 funext X es t
 exact propext ⟨fun h=>h.out,fun h=>⟨h⟩⟩
structure QS(X:Cx)(st:Stmt)(t:TS):Prop where
 out:PS X st t
theorem QS_eq:QS=PS:=by
 funext X st t
 exact propext ⟨fun h=>h.out,fun h=>⟨h⟩⟩
structure QSs(X:Cx)(st:List Stmt)(t:TS):Prop where
 out:PSs X st t
theorem QSs_eq:QSs=PSs:=by
 funext X st t
 exact propext ⟨fun h=>h.out,fun h=>⟨h⟩⟩
structure QI(X:Cx)(tg iter:Expr)(wi:TI):Prop where
 out:PI X tg iter wi
theorem QI_eq:QI=PI:=by
 funext X tg iter wi
 exact propext ⟨fun h=>h.out,fun h=>⟨h⟩⟩
theorem PW.ptq:∀ {X:Cx} {e:Expr} {t:TT} (h:QW X e t),QT X e t:=by
 rw[QT_eq,QW_eq]
 intros
 first|exact PW.pt|(apply PW.pt<;>assumption)
section
variable {X:Cx}
theorem za5:∀ {i j pos},QE X (.Constant (.int i) j pos) (tC (.int i)):=by
 rw[QE_eq]
 intros
 first|exact pe_int|(apply pe_int<;>assumption)
theorem zl9:∀ {b j pos},QE X (.Constant (.bool b) j pos) (tC (.bl b)):=by
 rw[QE_eq]
 intros
 first|exact pe_bl|(apply pe_bl<;>assumption)
theorem pe_nonq:∀ {j pos},QE X (.Constant .none j pos) (tC .non):=by
 rw[QE_eq]
 intros
 first|exact pe_non|(apply pe_non<;>assumption)
theorem za8:∀ {x j pos},QE X (.Constant (.str x) j pos) (tC (.str x)):=by
 rw[QE_eq]
 intros
 first|exact pe_str|(apply pe_str<;>assumption)
theorem zg6:∀ {x:Str} {v:V} {u:Value} {pos:Pos} (hg:Gl X x) (hm:X.mg x=some u) (r:RelV v u) (hd:(x==("__debug__":Str))=false:=by decide),QE X (.Name x pos) (tC v):=by
 rw[QE_eq]
 intros
 first|exact pe_glob|(apply pe_glob<;>assumption)
theorem zy9:∀ {x:Str} {v:V} {u:Value} {pos:Pos} (hg:Gl X x) (hm:X.mg x=none) (hv:bootBuiltins x=some u) (r:RelV v u) (hn:x≠"__name__":=by decide) (hd:(x==("__debug__":Str))=false:=by decide),QE X (.Name x pos) (tC v):=by
 rw[QE_eq]
 intros
 first|exact pe_bltn|(apply pe_bltn<;>assumption)
variable {a b:Expr}{ta tb:TE}{pos:Pos}
theorem zd1:∀ {e:Expr} {t:TE} (h:QE X e t) (he:∀whole,isTrue e X.env whole=(do let v ←whole;standAt e.pos;holding [v] (truthy v)):=by intro _;rfl),QT X e (tB t):=by
 rw[QE_eq,QT_eq]
 intros
 first|exact pt_val|(apply pt_val<;>assumption)
variable {tA tB':TT}{rest:List Expr}
theorem zk9:∀(ha:QT X a tA),QW X (.BoolOp .And [a] pos) tA:=by
 rw[QT_eq,QW_eq]
 intros
 first|exact pw_and1|(apply pw_and1<;>assumption)
theorem yf2:∀(ha:QT X a tA),QW X (.BoolOp .Or [a] pos) tA:=by
 rw[QT_eq,QW_eq]
 intros
 first|exact pw_or1|(apply pw_or1<;>assumption)
theorem zn4:∀(ha:QT X a tA) (hb:QW X (.BoolOp .And (b::rest) pos) tB'),QW X (.BoolOp .And (a::b::rest) pos) (tAnd tA tB'):=by
 rw[QT_eq,QW_eq]
 intros
 first|exact pw_and|(apply pw_and<;>assumption)
theorem pw_orq:∀(ha:QT X a tA) (hb:QW X (.BoolOp .Or (b::rest) pos) tB'),QW X (.BoolOp .Or (a::b::rest) pos) (tOr tA tB'):=by
 rw[QT_eq,QW_eq]
 intros
 first|exact pw_or|(apply pw_or<;>assumption)
theorem yf3:∀(ha:QT X a tA),QT X (.UnaryOp .Not a pos) (tNot tA):=by
 rw[QT_eq]
 intros
 first|exact pt_not|(apply pt_not<;>assumption)
theorem zh8:∀ {op} {t:TE} (h:QE X a t),QE X (.BoolOp op [a] pos) t:=by
 rw[QE_eq]
 intros
 first|exact pe_one|(apply pe_one<;>assumption)
theorem zi6:∀(ha:QE X a ta) (hb:QE X (.BoolOp .And (b::rest) pos) tb),QE X (.BoolOp .And (a::b::rest) pos) (ya8 ta tb):=by
 rw[QE_eq]
 intros
 first|exact pe_and|(apply pe_and<;>assumption)
theorem yj1:∀(ha:QE X a ta) (hb:QE X (.BoolOp .Or (b::rest) pos) tb),QE X (.BoolOp .Or (a::b::rest) pos) (tOrV ta tb):=by
 rw[QE_eq]
 intros
 first|exact pe_or|(apply pe_or<;>assumption)
theorem zy8:∀(ha:QE X a ta),QE X (.UnaryOp .Not a pos) (tNotV ta):=by
 rw[QE_eq]
 intros
 first|exact pe_not|(apply pe_not<;>assumption)
theorem zi5:∀ {c:Expr} (hc:QT X c tA) (ha:QE X a ta) (hb:QE X b tb),QE X (.IfExp c a b pos) (tIf tA ta tb):=by
 rw[QE_eq,QT_eq]
 intros
 first|exact yj3|(apply yj3<;>assumption)
end
section
variable {X:Cx}{st:Stmt}{rest:List Stmt}{t u:TS}{e:Expr}{te:TE}{pos:Pos}
theorem zc9:QSs X [] tNext:=by
 rw[QSs_eq]
 intros
 first|exact pss_nil|(apply pss_nil<;>assumption)
theorem za0:∀(h1:QS X st t) (h2:QSs X rest u),QSs X (st::rest) (tSeq t u):=by
 rw[QS_eq,QSs_eq]
 intros
 first|exact yi6|(apply yi6<;>assumption)
theorem za7:∀(h1:QS X st t),QSs X [st] t:=by
 rw[QS_eq,QSs_eq]
 intros
 first|exact pss_one|(apply pss_one<;>assumption)
theorem zd5:∀(he:QE X e te) (hs:swapsWith e none pos.line X.env=pure false:=by rfl),QS X (.Expr e pos) (tDrop te):=by
 rw[QE_eq,QS_eq]
 intros
 first|exact ps_expr|(apply ps_expr<;>assumption)
theorem zc0:∀(he:QE X e te),QS X (.Return (some e) pos) (tRet te):=by
 rw[QE_eq,QS_eq]
 intros
 first|exact ps_ret|(apply ps_ret<;>assumption)
theorem ze9:∀ {c:Expr} {a b:List Stmt} {tc:TT} (hc:QT X c tc) (ha:QSs X a t) (hb:QSs X b u),QS X (.If c a b pos) (tIfS tc t u):=by
 rw[QT_eq,QS_eq,QSs_eq]
 intros
 first|exact ps_if|(apply ps_if<;>assumption)
end
section
variable {X:Cx}{pos:Pos}
theorem zb1:∀ {i:Nat} {x:Str} {e:Expr} {te:TE} {pos':Pos} (hN:X.N.Nodup) (hi:X.N[i]? = some x) (hx:Loc X.env.scope x) (he:QE X e te) (hs:swapsWith e (some (.Name x pos')) pos.line X.env=pure false:=by rfl) (hf:X.fn x=true∨X.env.scope.names.lookup x=some .local:=by first|exact .inl rfl|exact .inr rfl|assumption),QS X (.Assign [.Name x pos'] e pos) (tAsg te (yn1 i)):=by
 rw[QE_eq,QS_eq]
 intros
 first|exact ps_set|(apply ps_set<;>assumption)
end
section
variable {X:Cx}{pos:Pos}
theorem zi4:∀ {c:Expr} {body:List Stmt} {tc:TT} {tb:TS} (hp:PassesOwn (model X.prog X.w) X.A X.env X.xe) (hc:QT X c tc) (hb:QSs X body tb),QS X (.While c body [] pos) (tWhile tc tb):=by
 rw[QT_eq,QS_eq,QSs_eq]
 intros
 first|exact yi7|(apply yi7<;>assumption)
end
section
variable {X:Cx}{tg:Expr}
theorem pi_listq:∀ {l:Expr} {tl:TE} (hl:QE X l tl),QI X tg l (iList X.K tl):=by
 rw[QE_eq,QI_eq]
 intros
 first|exact pi_list|(apply pi_list<;>assumption)
theorem zk3:∀ {a:Expr} {ta:TA} {p pos:Pos} (hg:Gl X "range") (hm:X.mg "range"=none) (ha:QA X [a] ta) (hs:starEach [a] X.env=[(false,eval a X.env)]:=by rfl),QI X tg (.Call (.Name "range" p) [a] [] pos) (iRng1 ta):=by
 rw[QA_eq,QI_eq]
 intros
 first|exact yb9|(apply yb9<;>assumption)
theorem yf4:∀ {iter:Expr} {body:List Stmt} {wi:TI} {g:TG} {tb:TS} {pos:Pos} (hp:PassesOwn (model X.prog X.w) X.A X.env X.xe) (hc:X.calm=true) (hi:QI X tg iter wi) (hg:PG X tg g) (hb:QSs X body tb)
  (hs:∀x,foldedSetIterable iter X.env x=pure x:=by intro _;rfl),QS X (.For tg iter body [] pos) (tFor wi g tb):=by
 rw[QS_eq,QSs_eq,QI_eq]
 intros
 first|exact ps_for|(apply ps_for<;>assumption)
end
section
variable {X:Cx}{a b c:Expr}{ta tb tc:TE}{pos:Pos}
theorem zb3:∀ {op:Operator} {r:R2} (ho:OpR X (binaryOp op) r) (ha:QE X a ta) (hb:QE X b tb),QE X (.BinOp a op b pos) (tOp r ta tb):=by
 rw[QE_eq]
 intros
 first|exact pe_op|(apply pe_op<;>assumption)
theorem zv1:∀ {op:UnaryOp} {r:V→Hp→VK→Prop} (ho:UnR X (unaryOp op) r) (ha:QE X a ta),QE X (.UnaryOp op a pos) (tUn r ta):=by
 rw[QE_eq]
 intros
 first|exact pe_un|(apply pe_un<;>assumption)
end
section
variable {X:Cx}{a b c:Expr}{ta tb tc:TE}{pos:Pos}
theorem zf0:∀ {op:CmpOp} {r:R2} (ho:OpR X (compareOp op) r) (ha:QE X a ta) (hb:QE X b tb) (hm:behindInMarks op b=false),QE X (.Compare a [op] [b] pos) (tOp r ta tb):=by
 rw[QE_eq]
 intros
 first|exact pe_cmpR|(apply pe_cmpR<;>assumption)
theorem zc5:∀ {op:CmpOp} {r:R2} (ho:OpR X (compareOp op) r) (ha:QE X a ta) (hb:QE X b tb) (hm:behindInMarks op b=false),QT X (.Compare a [op] [b] pos) (yl5 (tOp r ta tb)):=by
 rw[QE_eq,QT_eq]
 intros
 first|exact pt_cmpR|(apply pt_cmpR<;>assumption)
theorem yb4:∀(ha:QE X a ta) (he:∀whole,isTrue a X.env whole=(do let v ←whole;standAt a.pos;holding [v] (truthy v))),QT X a (fun σ H Q=>ta σ H fun x H'=>∃k,TruV X.K x H' k∧Q k H'):=by
 rw[QE_eq,QT_eq]
 intros
 first|exact yi5|(apply yi5<;>assumption)
end
section
variable {X:Cx}{o e value:Expr}{f:Str}{pos pos' tpos:Pos}{ta tv:TE}
theorem zf9:∀(he:QE X e ta) (hb:attributeBase e f X.env (eval e X.env)=eval e X.env),QE X (.Attribute e f pos) (tFld X.K ta f):=by
 rw[QE_eq]
 intros
 first|exact pe_fld|(apply pe_fld<;>assumption)
theorem yf5:∀(ha:QE X o ta) (hv:QE X value tv) (hs:swapsWith value (some (.Attribute o f pos')) pos.line X.env=pure false),QS X (.Assign [.Attribute o f pos'] value pos) (sFld X.K ta tv f):=by
 rw[QE_eq,QS_eq]
 intros
 first|exact ps_fld|(apply ps_fld<;>assumption)
theorem zk2:∀ {op:Operator} {rd:V→V→Hp→VK→Prop} (ha:QE X o ta) (hv:QE X value tv) (hop:InOp X op rd),QS X (.AugAssign (.Attribute o f tpos) op value pos) (sFldAug X.K ta tv rd f):=by
 rw[QE_eq,QS_eq]
 intros
 first|exact yb6|(apply yb6<;>assumption)
end
section
variable {X:Cx}{e:Expr}{es:List Expr}{te:TE}{t:TA}{pos:Pos}
theorem za1:QA X [] tNil:=by
 rw[QA_eq]
 intros
 first|exact pa_nil|(apply pa_nil<;>assumption)
theorem zl0:∀(ha:QE X e te) (hr:QA X es t) (hs:starEach (e::es) X.env=(false,eval e X.env)::starEach es X.env:=by rfl),QA X (e::es) (zm8 te t):=by
 rw[QE_eq,QA_eq]
 intros
 first|exact zl1|(apply zl1<;>assumption)
theorem ze5:∀ {x1} (h:QA X es t),QE X (.Tuple es x1 pos) (tTup t):=by
 rw[QE_eq,QA_eq]
 intros
 first|exact pe_tup|(apply pe_tup<;>assumption)
theorem ze0:∀(h:QA X es t),QE X (.List es pos) (tLst t):=by
 rw[QE_eq,QA_eq]
 intros
 first|exact pe_lst|(apply pe_lst<;>assumption)
end
section
variable {X:Cx}{CX:CXT}{k:Nat}{f C:Addr}{fd:FuncData}{ps:List Str}{sp:Sp}{dvs:List V}{ds:List Value}{E:XK}{x m:Str}{p pos apos:Pos}{e o:Expr}{es:List Expr}{ta:TE}{t:TA}
theorem zc2:∀(F:FnOk X.prog X.w X.K X.mg X.base CX k f fd ps sp) (hr:Room k X.A) (hg:Gl X x) (hm:X.mg x=some (.ref f)) (hk:PySem.W.keepIn X.K (.ref f)=true) (hb:Binds X.K fd ps ds) (hd:Vals dvs ds) (hx:Passes CX X E)
  (ha:QA X (e::es) t) (hdb:(x==("__debug__":Str))=false:=by decide) (he:starEach (e::es) X.env=(false,eval e X.env)::starEach es X.env:=by rfl) (hpl:(backTo pos (starEach es X.env)).any (·.1)=false:=by rfl),QE X (.Call (.Name x p) (e::es) [] pos) (tCall sp dvs E t):=by
 rw[QE_eq,QA_eq]
 intros
 first|exact pe_call|(apply pe_call<;>assumption)
theorem zc1:∀ {pl:Sem Bool} (he:QE X o ta) (c:Cls X.K C) (hm:Meth X.K C m f) (F:FnOk X.prog X.w X.K X.mg X.base CX k f fd ps sp) (hr:Room k X.A) (hb:Binds X.K fd ps ds) (hd:Vals dvs ds) (hx:Passes CX X E) (ha:QA X (e::es) t)
  (hst:starEach (e::es) X.env=(false,eval e X.env)::starEach es X.env:=by rfl) (hpl:(backTo pos (starEach es X.env)).any (·.1)=false:=by rfl)
  (ht:eval (.Call (.Attribute o m apos) (e::es) [] pos) X.env=(do
   let ov ←eval o X.env
   standAt apos.atName
   let (f,first) ←holding [ov] (getMethod ov m pl)
   callWith pos f first (backTo pos (starEach (e::es) X.env)) (backToKw pos (keywordEach [] X.env))):=by rfl),QE X (.Call (.Attribute o m apos) (e::es) [] pos) (tMeth C m sp dvs E ta t):=by
 rw[QE_eq,QA_eq]
 intros
 first|exact pe_meth|(apply pe_meth<;>assumption)
theorem ze6:∀ {pl:Sem Bool} (he:QE X o ta) (c:Cls X.K C) (hm:Meth X.K C m f) (F:FnOk X.prog X.w X.K X.mg X.base CX k f fd ps sp) (hr:Room k X.A) (hb:Binds X.K fd ps ds) (hd:Vals dvs ds) (hx:Passes CX X E)
  (ht:eval (.Call (.Attribute o m apos) [] [] pos) X.env=(do
   let ov ←eval o X.env
   standAt apos.atName
   let (f,first) ←holding [ov] (getMethod ov m pl)
   callWith pos f first (backTo pos (starEach [] X.env)) (backToKw pos (keywordEach [] X.env))):=by rfl),QE X (.Call (.Attribute o m apos) [] [] pos) (tMeth C m sp dvs E ta tNil):=by
 rw[QE_eq]
 intros
 first|exact yj2|(apply yj2<;>assumption)
theorem pe_makeq:∀(M:Mk X.K C f) (F:FnOk X.prog X.w X.K X.mg X.base CX k f fd ps sp) (hr:Room (k+1) X.A) (hg:Gl X x) (hm:X.mg x=some (.ref C)) (hb:Binds X.K fd ps ds) (hd:Vals dvs ds) (hx:Passes CX X E)
  (ha:QA X (e::es) t) (hdb:(x==("__debug__":Str))=false:=by decide) (he:starEach (e::es) X.env=(false,eval e X.env)::starEach es X.env:=by rfl) (hpl:(backTo pos (starEach es X.env)).any (·.1)=false:=by rfl),QE X (.Call (.Name x p) (e::es) [] pos) (tMake C sp dvs E t):=by
 rw[QE_eq,QA_eq]
 intros
 first|exact pe_make|(apply pe_make<;>assumption)
end
section
variable {X:Cx}{x:Str}{p pos:Pos}{e:Expr}{es:List Expr}{t:TA}{id T:String}{r:List V→Hp→VK→Prop}
theorem zd7:∀(hc:CallR X (.builtin id) r) (hg:Gl X x) (hm:X.mg x=none) (hv:bootBuiltins x=some (.builtin id)) (ha:QA X (e::es) t) (hn:x≠"__name__":=by decide) (hdb:(x==("__debug__":Str))=false:=by decide)
  (he:starEach (e::es) X.env=(false,eval e X.env)::starEach es X.env:=by rfl) (hpl:(backTo pos (starEach es X.env)).any (·.1)=false:=by rfl),QE X (.Call (.Name x p) (e::es) [] pos) (tCB r t):=by
 rw[QE_eq,QA_eq]
 intros
 first|exact yj5|(apply yj5<;>assumption)
theorem zh0:∀(hc:CallR X (.type T) r) (hg:Gl X x) (hm:X.mg x=none) (hv:bootBuiltins x=some (.type T)) (ha:QA X (e::es) t) (hn:x≠"__name__":=by decide) (hdb:(x==("__debug__":Str))=false:=by decide)
  (he:starEach (e::es) X.env=(false,eval e X.env)::starEach es X.env:=by rfl) (hpl:(backTo pos (starEach es X.env)).any (·.1)=false:=by rfl),QE X (.Call (.Name x p) (e::es) [] pos) (tCB r t):=by
 rw[QE_eq,QA_eq]
 intros
 first|exact yc0|(apply yc0<;>assumption)
end
end L2
namespace HT
open PySem PyProof.Rows
section
open PySem.SeqAt
open PySem.AutoSeq1 (wpAny_loadPart')
open PySem.MeetsSeq PySem.MeetsSeq2 PySem.MeetsSeq3
end
end HT
namespace L2
open PySem PySem.Spec PyProof.Rows
section
variable {X:Cx}{e:Expr}{te:TE}{lo hi:Option Expr}{tl th:TO}{pos p2:Pos}
theorem zh4:∀(h:QE X e te),PO X (some e) (tPart te):=by
 rw[QE_eq]
 intros
 first|exact po_some|(apply po_some<;>assumption)
theorem zg5:∀ {r:V→Option Int→Option Int→Hp→VK→Prop} (hr:SlR X r) (he:QE X e te) (hl:PO X lo tl) (hu:PO X hi th),QE X (.Subscript e (.Slice lo hi none p2) pos) (tSl r te tl th):=by
 rw[QE_eq]
 intros
 first|exact yj0|(apply yj0<;>assumption)
end
section
variable {X:Cx}{a b:Expr}{ta tb:TE}{pos:Pos}
theorem zd6:∀ {r:R2} (hr:IxR X r) (ha:QE X a ta) (hb:QE X b tb) (hs:PlainIx b),QE X (.Subscript a b pos) (tOp r ta tb):=by
 rw[QE_eq]
 intros
 first|exact pe_ix|(apply pe_ix<;>assumption)
variable {o e:Expr}{es:List Expr}{to:TE}{t:TA}{name:Str}{apos cpos:Pos}{T id:String}{r:V→List V→Hp→VK→Prop}
theorem zq7:∀(pa:PlainAttrs T) (slot:Slot T name id) (hty:typeOf (.builtin id)=pure (.type "method_descriptor")) (hm:MtR X id r) (ho:QE X o to) (ha:QA X (e::es) t)
  (hbase:attributeBase o name X.env (eval o X.env)=eval o X.env:=by rfl)
  (hfew:((backTo cpos (starEach (e::es) X.env)).all (fun x => !x.1)&&(backToKw cpos (keywordEach [] X.env)).all (fun x=>x.1.isSome)
   && decide ((e::es).length+([]:List Keyword).length+(if([]:List Keyword).isEmpty then 0 else 1)<30))=true:=by rfl)
  (hline:(apos.endLine==cpos.line)=true:=by rfl) (hs:starEach (e::es) X.env=(false,eval e X.env)::starEach es X.env:=by rfl) (hplain:(backTo cpos (starEach es X.env)).any (·.1)=false:=by rfl),QE X (.Call (.Attribute o name apos) (e::es) [] cpos) (tBM X.K T r to t):=by
 rw[QE_eq,QA_eq]
 intros
 first|exact pe_bm|(apply pe_bm<;>assumption)
end
end L2
namespace Att
open PySem PySem.W PySem.Calls PyProof.Rows
end Att
namespace L2
open PySem PySem.Spec PyProof.Rows
section
variable {P:Program}{w:World}{K:PySem.W.Frag}{mg:Str→Option Value}{base:Heap}
theorem Fun.okq:∀ {x qual:Str} {st:Stmt} {f:Addr} {fd:FuncData} {N ps:List Str} {k:Nat} {sp:Sp} (F:Fun K x qual st f fd) (S:FnScope N ps (zb2 st)) (len:∀vs H Q E,sp vs H Q E→vs.length=ps.length)
  (hbody:∀(cdv:Value) (A:Around) (outer:List Env) (s:Shared) (H:Hp) (vs:List V) (Q:VK) (E:XK),Room k (A.deeper (envOfC qual (zb2 st) s.heap.objs.size f cdv))→sp vs H Q E→
   ∃t,QSs (yd5 CX0 P w K mg base N qual (zb2 st) f cdv A outer s H E).nox (zj8 st) t∧t { nx:=fun _ H'=>Q .non H',rt:=Q } (start N vs) H),FnOk P w K mg base CX0 (k+1) f fd ps sp:=by
 rw[QSs_eq]
 intros
 first|exact Fun.ok|(apply Fun.ok<;>assumption)
end
section
variable {X:Cx}
theorem pvq:∀(i:Nat) {x:Str} {pos:Pos} (hN:X.N[i]? = some x:=by rfl) (hv:Vis X.env.scope x:=by first|exact Or.inl rfl|exact Or.inr (Or.inl rfl)|exact Or.inr (Or.inr rfl)) (hd:(x==("__debug__":Str))=false:=by decide)
  (hcd:(x==("__classdict__":Str))=false:=by decide),QE X (.Name x pos) (zp1 i):=by
 rw[QE_eq]
 intros
 first|exact pv|(apply pv<;>assumption)
end
section
variable {X:Cx}{elt iter:Expr}{ifs:List Expr}{scope:Scope}{pos px:Pos}{x:Str}{cl:List (Str×Addr)}{ys:List Str}{js:List Nat}{ti:TT}{te:TE}
theorem pe_compq:∀ {wi:TI} (hcalm:X.calm=true) (S:CompScope X scope cl x ys js) (hi:QI X (.Name x px) iter wi)
  (ht:∀C fp s H,PIfs (cxC X (x::ys) scope cl C fp s H) ifs ti) (he:∀C fp s H,QE (cxC X (x::ys) scope cl C fp s H) elt te)
  (hs:∀x,foldedSetIterable iter X.env x=pure x:=by intro _;rfl),QE X (.ListComp elt [⟨.Name x px,iter,ifs,0⟩] scope pos) (tComp js wi ti te):=by
 rw[QE_eq,QI_eq]
 intros
 first|exact pe_comp|(apply pe_comp<;>assumption)
theorem zy6:∀ {wi:TI} {i:Nat} {y:Str} {py spos:Pos} (hN:X.N.Nodup) (hix:X.N[i]? = some y) (hxl:Loc X.env.scope y) (hcalm:X.calm=true) (S:CompScope X scope cl x ys js) (hi:QI X (.Name x px) iter wi)
  (ht:∀C fp s H,PIfs (cxC X (x::ys) scope cl C fp s H) ifs ti) (he:∀C fp s H,QE (cxC X (x::ys) scope cl C fp s H) elt te)
  (hsw:swapsWith (.ListComp elt [⟨.Name x px,iter,ifs,0⟩] scope pos) (some (.Name y py)) spos.line X.env=pure true:=by rfl) (hs:∀x,foldedSetIterable iter X.env x=pure x:=by intro _;rfl)
  (hf:X.fn y=true∨X.env.scope.names.lookup y=some .local:=by first|exact .inl rfl|exact .inr rfl|assumption),QS X (.Assign [.Name y py] (.ListComp elt [⟨.Name x px,iter,ifs,0⟩] scope pos) spos) (tAsg (tComp js wi ti te) (yn1 i)):=by
 rw[QE_eq,QS_eq,QI_eq]
 intros
 first|exact ps_setC|(apply ps_setC<;>assumption)
end
section
variable {X:Cx}{CX:CXT}{k:Nat}{f:Addr}{fd:FuncData}{ps:List Str}{sp:Sp}{ES:St→XK}{x:Str}{p pos:Pos}{e:Expr}{es:List Expr}{t:TA}
theorem pe_callSq:∀(F:FnOk X.prog X.w X.K X.mg X.base CX k f fd ps sp) (hr:Room k X.A) (hg:Gl X x) (hm:X.mg x=some (.ref f)) (hk:PySem.W.keepIn X.K (.ref f)=true) (hb:Binds X.K fd ps []) (hx:PassS CX X ES)
  (ha:QA X (e::es) t) (hdb:(x==("__debug__":Str))=false:=by decide) (he:starEach (e::es) X.env=(false,eval e X.env)::starEach es X.env:=by rfl) (hpl:(backTo pos (starEach es X.env)).any (·.1)=false:=by rfl),QE X (.Call (.Name x p) (e::es) [] pos) (tCallS sp ES t):=by
 rw[QE_eq,QA_eq]
 intros
 first|exact yj4|(apply yj4<;>assumption)
end
end L2
namespace PySem.W
open PySem PySem.Calls PyProof.Rows Builtin Builtin.ObjectAttr Builtin.Getset_descriptor
end PySem.W
namespace L2
open PySem PySem.Spec PyProof.Rows
open PySem PySem.Spec PyProof.Rows PySem.Builtin PySem.Builtin.Str
section
variable {X:Cx}{es:List Expr}{te:TE}{t:TA}{p:Pos}
theorem za3:∀ {c:Const} {j:Nat} (ha:QE X (.Constant c j p) te) (hr:QA X es t),QA X (.Constant c j p::es) (zm8 te t):=by
 rw[QE_eq,QA_eq]
 intros
 first|exact yj6|(apply yj6<;>assumption)
theorem za4:∀ {x:Str} (ha:QE X (.Name x p) te) (hr:QA X es t),QA X (.Name x p::es) (zm8 te t):=by
 rw[QE_eq,QA_eq]
 intros
 first|exact pa_name|(apply pa_name<;>assumption)
theorem zf6:∀ {a b:Expr} {op:Operator} (ha:QE X (.BinOp a op b p) te) (hr:QA X es t),QA X (.BinOp a op b p::es) (zm8 te t):=by
 rw[QE_eq,QA_eq]
 intros
 first|exact pa_bin|(apply pa_bin<;>assumption)
theorem zf4:∀ {f:Expr} {as:List Expr} {ks:List Keyword} (ha:QE X (.Call f as ks p) te) (hr:QA X es t),QA X (.Call f as ks p::es) (zm8 te t):=by
 rw[QE_eq,QA_eq]
 intros
 first|exact pa_call|(apply pa_call<;>assumption)
theorem zh9:∀ {a b:Expr} (ha:QE X (.Subscript a b p) te) (hr:QA X es t),QA X (.Subscript a b p::es) (zm8 te t):=by
 rw[QE_eq,QA_eq]
 intros
 first|exact pa_sub|(apply pa_sub<;>assumption)
theorem zz0:∀ {as:List Expr} {j:Nat} (ha:QE X (.Tuple as j p) te) (hr:QA X es t),QA X (.Tuple as j p::es) (zm8 te t):=by
 rw[QE_eq,QA_eq]
 intros
 first|exact pa_tup|(apply pa_tup<;>assumption)
theorem zr6:∀ {a:Expr} {x:Str} (ha:QE X (.Attribute a x p) te) (hr:QA X es t),QA X (.Attribute a x p::es) (zm8 te t):=by
 rw[QE_eq,QA_eq]
 intros
 first|exact pa_attr|(apply pa_attr<;>assumption)
end
section
variable {X:Cx}
theorem pi_strq:∀ {tg l:Expr} {tl:TE} (hl:QE X l tl),QI X tg l (iStr tl):=by
 rw[QE_eq,QI_eq]
 intros
 first|exact pi_str|(apply pi_str<;>assumption)
end
section
variable {P:Program}{w:World}{K:PySem.W.Frag}{mg:Str→Option Value}{base:Heap}
theorem Fun.okGq:∀ {CX:CXT} {x qual:Str} {st:Stmt} {f:Addr} {fd:FuncData} {N ps:List Str} {k:Nat} {sp:Sp} (F:Fun K x qual st f fd) (S:FnScope N ps (zb2 st)) (len:∀vs H Q E,sp vs H Q E→vs.length=ps.length)
  (hbody:∀(cdv:Value) (A:Around) (outer:List Env) (s:Shared) (H:Hp) (vs:List V) (Q:VK) (E:XK),Room k (A.deeper (envOfC qual (zb2 st) s.heap.objs.size f cdv))→sp vs H Q E→
   ∃t,QSs (yd5 CX P w K mg base N qual (zb2 st) f cdv A outer s H E) (zj8 st) t∧t { nx:=fun _ H'=>Q .non H',rt:=Q } (start N vs) H),FnOk P w K mg base CX (k+1) f fd ps sp:=by
 rw[QSs_eq]
 intros
 first|exact Fun.okG|(apply Fun.okG<;>assumption)
end
end L2
namespace Pq
inductive Plan where
 |text (t:List Nat)|line|cut
 |nest (n:Nat) (p:Plan)|align (p:Plan)|flat (p:Plan)
 |beside (p q:Plan)|choice (p q:Plan)
 deriving DecidableEq
namespace Plan
def size:Plan→Nat
 |text _=>1|line=>1|cut=>1
 |nest _ p=>p.size+1|align p=>p.size+1|flat p=>p.size+1
 |beside p q=>p.size+q.size+1
 |choice p q=>p.size+q.size+1
def deep:Plan→Nat
 |text _=>0|line=>0|cut=>0
 |nest _ p=>p.deep+1|align p=>p.deep+1|flat p=>p.deep+1
 |beside p q=>max p.deep q.deep+1
 |choice p q=>max p.deep q.deep+1
def sides:Plan→List (List Int)
 |text _=>[[]]|line=>[[]]|cut=>[[]]
 |nest _ p=>p.sides|align p=>p.sides|flat p=>p.sides
 |beside p q=>p.sides.flatMap fun r=>q.sides.map fun m=>r++m
 |choice p q=>p.sides.map (fun r=>0::r)++q.sides.map fun r=>1::r
end Plan
def col(t:List Nat):Nat:=(t.reverse.takeWhile (fun c=>c != 10)).length
def brk(b:List Nat)(t:List Nat)(m:Nat)(f:Bool):List Nat:=t++if f then b else 10::List.replicate m 32
def lay:Plan→List Int→List Nat→Nat→Bool→Option (List Nat×List Int)
 |.text x,b,t,_,_=>some (t++x,b)
 |.line,b,t,m,f=>some (brk [32] t m f,b)
 |.cut,b,t,m,f=>some (brk [] t m f,b)
 |.nest n p,b,t,m,f=>lay p b t (m+n) f
 |.align p,b,t,_,f=>lay p b t (col t) f
 |.flat p,b,t,m,_=>lay p b t m true
 |.beside p q,b,t,m,f=>(lay p b t m f).bind fun r=>lay q r.2 r.1 m f
 |.choice _ _,[],_,_,_=>none
 |.choice p q,x::b,t,m,f=>if x=0 then lay p b t m f else if x=1 then lay q b t m f else none
namespace Plan
end Plan
end Pq
namespace Pq
def cell(ns:List Int)(k:Int):Int:=if ns.isEmpty then 0 else ns.getD (k % ns.length).toNat 0
def mix1(ns:List Int)(k:Int):Int:=(cell ns k+104729*(k+1)) % 4294967291*48271 % 4294967279
def mix(ns:List Int)(k:Int):Int:=(mix1 ns k / 64*69621+mix1 ns k) % 4294967231
theorem ym4(ns:List Int)(k:Int):0≤mix ns k:=Int.emod_nonneg _ (by decide)
def signs:List Nat:=[32,33,34,35,36,38,39,40,41,42,43,44,45,46,47,48,49,50,51,52,53,54,55,56,57,58,59,60,61,62,63,64,65,66,67,68,69,70,71,72,73,74,75,76,77,78,79,
 80,81,82,83,84,85,86,87,88,89,90,91,92,93,94,95,96,97,98,99,100,101,102,103,104,105,106,107,108,109,110,111,112,113,114,115,116,117,118,119,120,121,122,123,124,125,126]
def sign(n:Int):Nat:=signs.getD (n % 94).toNat 0
end Pq
namespace Pq
end Pq
namespace Pq
end Pq
namespace Pq
def out1(p:Plan)(r:List Int)(t:List Nat)(m:Nat)(f:Bool):List Nat:=((lay p r t m f).getD ([],[])).1
def outs(p:Plan)(t:List Nat)(m:Nat)(f:Bool):List (List Nat):=p.sides.map fun r=>out1 p r t m f
def run(m:Nat)(f:Bool)(ps:List Plan)(ts:List (List Nat)):List (List Nat):=ps.foldl (fun ts p=>ts.flatMap fun t=>outs p t m f) ts
def post:Plan→List Plan
 |.text x=>[.text x]|.line=>[.line]|.cut=>[.cut]
 |.nest n p=>post p++[.nest n p]|.align p=>post p++[.align p]|.flat p=>post p++[.flat p]
 |.beside p q=>post p++(post q++[.beside p q])
 |.choice p q=>post p++(post q++[.choice p q])
def sizes(st:List Plan):Nat:=(st.map Plan.size).sum
def stk1:Plan→List Plan→Option (List Plan)
 |.beside p q,b::a::s=>if b=q∧a=p then some (.beside p q::s) else none
 |.choice p q,b::a::s=>if b=q∧a=p then some (.choice p q::s) else none
 |.beside _ _,_=>none
 |.choice _ _,_=>none
 |.nest n p,b::s=>if b=p then some (.nest n p::s) else none
 |.align p,b::s=>if b=p then some (.align p::s) else none
 |.flat p,b::s=>if b=p then some (.flat p::s) else none
 |.nest _ _,[]=>none
 |.align _,[]=>none
 |.flat _,[]=>none
 |p,s=>some (p::s)
def stk:List Plan→List Plan→Option (List Plan)
 |[],s=>some s
 |p::r,s=>(stk1 p s).bind (stk r)
end Pq
namespace Pq
def Sm(t:List Nat):Prop:=∀c∈t,c<1114112
theorem Sm.rep(n c:Nat)(h:c<1114112):Sm (List.replicate n c):=fun d hd=>by rw[(List.mem_replicate.mp hd).2];exact h
end Pq
namespace Pq
open PySem PySem.Builtin PySem.Builtin.Str
def tx(l:List Nat):Str:=⟨l.toArray⟩
theorem ze4(l:List Nat):(tx l).length=l.length:=by simp[tx,Str.length]
theorem yh3{l m:List Nat}(h:tx l=tx m):l=m:=by
 have:=congrArg (fun s=>s.cps.toList) h
 simpa [tx] using this
theorem yi4(a:Array Nat):∀(n:Nat) (acc:Array Nat),(List.replicate n a).foldl (· ++ ·) acc=acc++(List.replicate n a.toList).flatten.toArray
 |0,acc=>by simp
 |n+1,acc=>by
  rw[List.replicate_succ,List.foldl_cons,yi4 a n,List.replicate_succ,List.flatten_cons]
  rw[Array.append_assoc]
  congr 1
  apply Array.toList_inj.mp
  simp
end Pq
namespace Pq
open PySem PySem.Builtin PySem.Builtin.Str
end Pq
namespace Pq
end Pq
namespace Pq
open PySem PySem.Builtin PySem.Builtin.Str
theorem subAt_one(l:List Nat)(c i:Nat):subAt (tx l) (tx [c]) i=true↔l[i]? = some c:=by
 unfold subAt
 have e:(tx l).cps.extract i (i+(tx [c]).length)=((l.drop i).take 1).toArray:=by
  rw[ze4]
  simp[tx,List.extract_toArray]
 rw[e]
 show(((l.drop i).take 1).toArray==[c].toArray)=true↔_
 rw[beq_iff_eq]
 constructor
 ·intro h
  have h':(l.drop i).take 1=[c]:=by simpa using congrArg Array.toList h
  have:(l.drop i)[0]? = some c:=by
   cases q:l.drop i with
   |nil=>rw[q] at h';cases h'
   |cons a r=>rw[q] at h';simp at h';simp[h']
  rw[List.getElem?_drop] at this
  simpa using this
 ·intro h
  have h1:(l.drop i)[0]? = some c:=by rw[List.getElem?_drop];simpa using h
  cases q:l.drop i with
  |nil=>rw[q] at h1;cases h1
  |cons a r=>rw[q] at h1;simp at h1;simp[h1]
theorem yl2(l:List Nat)(c i:Nat):StrLaws.At (tx l) (tx [c]) (tx l).length i↔l[i]? = some c:=by
 unfold StrLaws.At
 rw[subAt_one,ze4,ze4]
 constructor
 ·exact fun h=>h.2
 ·intro h
  have:=(List.getElem?_eq_some_iff.mp h).1
  exact⟨by simp;omega,h⟩
theorem yc8(l:List Nat)(c:Nat):(!(occurrences (tx l) (tx [c]) 0 (tx l).length 1).isEmpty)=l.contains c:=by
 rcases StrLaws.occ_head (tx l) (tx [c]) 1 (Nat.le_refl _) with⟨e,h⟩|⟨i,r,e,h,_⟩
 ·rw[e]
  have:¬c∈l:=fun hc=>by
   obtain⟨i,hi,e'⟩:=List.mem_iff_getElem.mp hc
   exact h i ((yl2 l c i).mpr (by rw[List.getElem?_eq_getElem hi,e']))
  simp[this]
 ·rw[e]
  have:c∈l:=List.mem_of_getElem? ((yl2 l c i).mp h)
  simp[this]
theorem nodup_inj{l:List Nat}(hn:l.Nodup){i j:Nat}(h1:i<l.length)(h2:j<l.length)(e:l[j]=l[i]):j=i:=by
 rcases Nat.lt_trichotomy i j with h|h|h
 ·exact absurd e.symm (List.pairwise_iff_getElem.mp hn i j h1 h2 h)
 ·exact h.symm
 ·exact absurd e (List.pairwise_iff_getElem.mp hn j i h2 h1 h)
theorem index_one(l:List Nat)(c i:Nat)(h:l[i]? = some c)(hn:l.Nodup):∃r,occurrences (tx l) (tx [c]) 0 (tx l).length 1=i::r:=by
 rcases StrLaws.occ_head (tx l) (tx [c]) 1 (Nat.le_refl _) with⟨e,h'⟩|⟨j,r,e,h',_⟩
 ·exact absurd ((yl2 l c i).mpr h) (h' i)
 ·have hj:=(yl2 l c j).mp h'
  obtain⟨h1,e1⟩:=List.getElem?_eq_some_iff.mp h
  obtain⟨h2,e2⟩:=List.getElem?_eq_some_iff.mp hj
  have:j=i:=nodup_inj hn h1 h2 (e2.trans e1.symm)
  subst this
  exact⟨r,e⟩
theorem yk5(l:List Nat):∀(n i:Nat),i+n≤l.length→(List.range' i n).filterMap (fun x=>l.toArray[x]?)=(l.drop i).take n
 |0,i,_=>by simp
 |n+1,i,h=>by
  rw[List.range'_succ]
  have hi:i<l.length:=by omega
  have e:l.toArray[i]? = some l[i]:=by simp[hi]
  rw[List.filterMap_cons,e]
  show l[i]::_=_
  rw[yk5 l n (i+1) (by omega),List.drop_eq_getElem_cons hi,List.take_succ_cons]
theorem slice_ij(l:List Nat)(i j:Nat)(h:i≤j)(hj:j≤l.length):Txt.slice (tx l) (some (i:Int)) (some (j:Int))=tx ((l.drop i).take (j - i)):=by
 have e:strSliceIndices (some (i:Int)) (some (j:Int)) 1 (tx l).length=List.range' i (j - i):=by
  unfold strSliceIndices
  rw[ze4]
  have h1:¬((i:Int)<0):=by omega
  have h2:¬((j:Int)<0):=by omega
  have h3:(1:Int) > 0:=by omega
  simp only[h1,h2,h3,if_true,if_false]
  have e1:max 0 (min (i:Int) (l.length:Int))=(i:Int):=by omega
  have e2:max 0 (min (j:Int) (l.length:Int))=(j:Int):=by omega
  rw[e1,e2]
  rw[sliceRange_one,List.range'_eq_map_range]
 unfold Txt.slice
 rw[e]
 by_cases c:((1:Int)==1&&(List.range' i (j - i)).length==(tx l).length)=true
 ·rw[if_pos c]
  rw[ze4,List.length_range'] at c
  have:j - i=l.length:=by simpa using c
  have hi:i=0:=by omega
  subst hi
  have:j=l.length:=by omega
  subst this
  simp
 ·rw[if_neg c]
  show tx _=_
  congr 1
  exact yk5 l (j - i) i (by omega)
end Pq
namespace Pq
open PySem L2
theorem zk4{c A B:Prop}[Decidable c](hc:c)(h:A):if c then A else B:=by rw[if_pos hc];exact h
theorem zp5{c A B:Prop}[Decidable c](hc:¬c)(h:B):if c then A else B:=by rw[if_neg hc];exact h
theorem za6{H:Hp}{p:Addr}(h:H p=none)(o:HO):Same H (upd H p o):=fun b u q=>by rw[zb8 (zb6 q h)];exact q
theorem zb7{n:Nat}(h:n≤16777216):n≤sizeLine:=by have e:sizeLine=16777216:=sizeLine_eq;omega
theorem at_ints{ns:List Int}{i:Int}(h0:0≤i)(h1:i<(ns.length:Int)):atI (ns.map V.int) i=some (.int (ns.getD i.toNat 0)):=by
 have hk:i.toNat<ns.length:=by omega
 have e:i=((i.toNat:Nat):Int):=by omega
 rw[e]
 have q:(ns.map V.int)[i.toNat]? = some (.int (ns.getD i.toNat 0)):=by
  rw[List.getElem?_map,List.getElem?_eq_getElem hk,List.getD_eq_getElem?_getD,List.getElem?_eq_getElem hk]<;>rfl
 exact zh2 q
def PlanAt(H:Hp):Plan→Addr→Prop
 |.text t,r=>H r=some (.tup [.str "text",.str (tx t)])
 |.line,r=>H r=some (.tup [.str "line"])
 |.cut,r=>H r=some (.tup [.str "cut"])
 |.nest n p,r=>∃a,H r=some (.tup [.str "nest",.int n,.ref a])∧PlanAt H p a
 |.align p,r=>∃a,H r=some (.tup [.str "align",.ref a])∧PlanAt H p a
 |.flat p,r=>∃a,H r=some (.tup [.str "flat",.ref a])∧PlanAt H p a
 |.beside p q,r=>∃a b,H r=some (.tup [.str "beside",.ref a,.ref b])∧PlanAt H p a∧PlanAt H q b
 |.choice p q,r=>∃a b,H r=some (.tup [.str "choice",.ref a,.ref b])∧PlanAt H p a∧PlanAt H q b
def Tups(H H':Hp):Prop:=∀b xs,H b=some (.tup xs)→H' b=some (.tup xs)
theorem Tups.of{H H':Hp}(h:Same H H'):Tups H H':=fun b xs e=>h b _ e
theorem Tups.trans{H H1 H2:Hp}(a:Tups H H1)(b:Tups H1 H2):Tups H H2:=fun c xs e=>b c xs (a c xs e)
theorem PlanAt.mono{H H':Hp}(h:Tups H H'):∀ {p:Plan} {r:Addr},PlanAt H p r→PlanAt H' p r
 |.text _,_,e=>h _ _ e
 |.line,_,e=>h _ _ e
 |.cut,_,e=>h _ _ e
 |.nest _ _,_,⟨a,e,q⟩=>⟨a,h _ _ e,PlanAt.mono h q⟩
 |.align _,_,⟨a,e,q⟩=>⟨a,h _ _ e,PlanAt.mono h q⟩
 |.flat _,_,⟨a,e,q⟩=>⟨a,h _ _ e,PlanAt.mono h q⟩
 |.beside _ _,_,⟨a,b,e,q,q'⟩=>⟨a,b,h _ _ e,PlanAt.mono h q,PlanAt.mono h q'⟩
 |.choice _ _,_,⟨a,b,e,q,q'⟩=>⟨a,b,h _ _ e,PlanAt.mono h q,PlanAt.mono h q'⟩
def spCell(K:PySem.W.Frag):Sp:=fun vs H Q _=>∃(a:Addr) (ns:List Int) (k:Int),vs=[.ref a,.int k]∧SqL K H a (ns.map V.int)∧ns.length≤63∧Q (.int (cell ns k)) H
def spMix(K:PySem.W.Frag):Sp:=fun vs H Q _=>∃(a:Addr) (ns:List Int) (k:Int),vs=[.ref a,.int k]∧SqL K H a (ns.map V.int)∧ns.length≤63∧Q (.int (mix ns k)) H
theorem fn_no{P:Program}{w:World}{K:PySem.W.Frag}{mg:Str→Option Value}{base:Heap}{CX:CXT}{k:Nat}{f:Addr}{fd:FuncData}{ps:List Str}{sp:Sp}(no:∀vs H Q E,¬sp vs H Q E):FnOk P w K mg base CX k f fd ps sp:=
 ⟨fun vs H Q E h=>absurd h (no vs H Q E),fun A outer s H args us vs Q E _ _ _ _ h=>absurd h (no vs H Q E)⟩
theorem mul_one(c:Nat)(n:Int)(h:0≤n):Txt.mul (tx [c]) n=tx (List.replicate n.toNat c):=by
 unfold Txt.mul
 have hl:(tx [c]).length=1:=ze4 [c]
 by_cases h1:n<1
 ·rw[if_pos h1]
  have:n.toNat=0:=by omega
  rw[this];rfl
 ·rw[if_neg h1]
  by_cases h2:n=1
  ·subst h2
   rw[if_pos (by simp)];rfl
  ·rw[if_neg (by rw[hl];simp;omega),yi4]
   show(⟨_⟩:Str)=⟨_⟩
   congr 1
   show #[]++(List.replicate n.toNat [c]).flatten.toArray=_
   have e:∀m:Nat,(List.replicate m [c]).flatten=List.replicate m c:=fun m=>by
    induction m with
    |zero=>rfl
    |succ m ih=>rw[List.replicate_succ,List.flatten_cons,ih];rfl
   rw[e]
   simp
theorem zu1{xs:List V}{i:Int}{v:V}(h0:0≤i)(h:xs[i.toNat]? = some v):atI xs i=some v:=by
 have e:i=((i.toNat:Nat):Int):=by omega
 rw[e]
 exact zh2 h
structure MO(P:Program)(w:World)(K:PySem.W.Frag)(mg:Str→Option Value)(base:Heap)(C:Addr)(CX:CXT)(k:Nat)(f:Addr)(fd:FuncData)(m:Str)(ps:List Str)(sp:Sp):Prop where
 ok:FnOk P w K mg base CX k f fd ps sp
 b:Binds K fd ps []
 m:Meth K C m f
end Pq
namespace Pq
open PySem L2
abbrev Rows(H:Hp):List Addr→List (List Int)→Prop:=Paired fun a row=>H a=some (.lst (row.map V.int))
theorem Rows.mono{H H':Hp}(h:Same H H'){as:List Addr}{rows:List (List Int)}(r:Rows H as rows):Rows H' as rows:=Paired.mapP r fun _ _ e=>h _ _ e
theorem Rows.get{H:Hp}:∀ {as:List Addr} {rows:List (List Int)} {i:Nat} {v:V},Rows H as rows→(as.map V.ref)[i]? = some v→∃a row,v=.ref a∧rows[i]? = some row∧H a=some (.lst (row.map V.int))
 |_,_,_,_,.nil,e=>by simp at e
 |_,_,0,_,.cons r _,e=>by simp at e;subst e;exact⟨_,_,rfl,rfl,r⟩
 |_,_,i+1,v,.cons _ t,e=>by
  obtain⟨a,row,h1,h2,h3⟩:=Rows.get (i:=i) (v:=v) t (by simpa using e)
  exact⟨a,row,h1,by simpa using h2,h3⟩
theorem Rows.append{H:Hp}:∀ {as bs:List Addr} {xs ys:List (List Int)},Rows H as xs→Rows H bs ys→Rows H (as++bs) (xs++ys)
 |_,_,_,_,.nil,s=>s
 |_,_,_,_,.cons r t,s=>.cons r (Rows.append t s)
def RowsAt(H:Hp)(rr:Addr)(rows:List (List Int)):Prop:=∃as:List Addr,H rr=some (.lst (as.map V.ref))∧Rows H as rows
theorem RowsAt.mono{H H':Hp}(h:Same H H'){rr:Addr}{rows:List (List Int)}:RowsAt H rr rows→RowsAt H' rr rows:=fun⟨as,e,r⟩=>⟨as,h _ _ e,r.mono h⟩
theorem zm5{H H':Hp}{D:Addr}(h:Same H H')(n:H D=none)(o:HO):Same H (upd H' D o):=fun b u e=>by rw[zb8 (zb6 e n)];exact h b u e
theorem zs4{α:Type}{l:List α}{i:Nat}{x:α}(h:l[i]? = some x):l.take (i+1)=l.take i++[x]:=by
 rw[List.take_add_one,h];rfl
structure Grown(H1:Hp)(D:Addr)(rows:List (List Int))(H:Hp)(ys:List V):Prop where
 same:Same H1 H
 at_:H D=some (.lst ys)
 bs:∃bs:List Addr,ys=bs.map V.ref∧Rows H bs rows∧∀b∈bs,b≠D∧H1 b=none
theorem Grown.start{H1:Hp}{D:Addr}(n:H1 D=none):Grown H1 D [] (upd H1 D (.lst [])) []:=⟨za6 n _,za2,[],rfl,.nil,fun _ h=>nomatch h⟩
theorem yl8{α β:Type}{R:α→β→Prop}{as:List α}{bs:List β}(h:Paired R as bs):as.length=bs.length:=Paired.length h
theorem Grown.len{H1 H:Hp}{D:Addr}{rows:List (List Int)}{ys:List V}(g:Grown H1 D rows H ys):ys.length=rows.length:=by
 obtain⟨bs,rfl,r,_⟩:=g.bs
 rw[List.length_map,yl8 r]
theorem Rows.upd{H:Hp}{D:Addr}{o:HO}:∀ {bs:List Addr} {rows:List (List Int)},Rows H bs rows→(∀b∈bs,b≠D)→Rows (L2.upd H D o) bs rows
 |_,_,.nil,_=>.nil
 |_,_,.cons q t,nb=>.cons (by rw[zb8 (nb _ List.mem_cons_self)];exact q) (Rows.upd t fun b hb=>nb b (List.mem_cons_of_mem _ hb))
theorem Grown.more{H1 H H5:Hp}{D p:Addr}{rows:List (List Int)}{ys:List V}{row:List Int}(g:Grown H1 D rows H ys)(n:H1 D=none)(s:Same H H5)(e:H5 p=some (.lst (row.map V.int)))(np:p≠D)(nf:H1 p=none):
  Grown H1 D (rows++[row]) (L2.upd H5 D (.lst (ys++[.ref p]))) (ys++[.ref p]):=by
 obtain⟨bs,rfl,r,nb⟩:=g.bs
 refine⟨zm5 (g.same.trans s) n _,za2,bs++[p],by rw[List.map_append];rfl,?_,fun b hb=>?_⟩
 ·exact Rows.append ((r.mono s).upd fun b hb=>(nb b hb).1) (.cons (by rw[zb8 np];exact e) .nil)
 ·rcases List.mem_append.mp hb with z|z
  ·exact nb b z
  ·rw[List.mem_singleton.mp z];exact⟨np,nf⟩
theorem Grown.ext{H1 H H5:Hp}{D:Addr}{rows more:List (List Int)}{ys:List V}{cs:List Addr}(g:Grown H1 D rows H ys)(n:H1 D=none)(s:Same H H5)(e:Rows H5 cs more)(nc:∀b∈cs,b≠D∧H1 b=none):
  Grown H1 D (rows++more) (L2.upd H5 D (.lst (ys++cs.map V.ref))) (ys++cs.map V.ref):=by
 obtain⟨bs,rfl,r,nb⟩:=g.bs
 refine⟨zm5 (g.same.trans s) n _,za2,bs++cs,by rw[List.map_append],?_,fun b hb=>?_⟩
 ·exact Rows.append ((r.mono s).upd fun b hb=>(nb b hb).1) (e.upd fun b hb=>(nc b hb).1)
 ·rcases List.mem_append.mp hb with z|z
  ·exact nb b z
  ·exact nc b z
def del(H:Hp)(D:Addr):Hp:=fun b=>if b=D then none else H b
theorem yh5{H:Hp}{D:Addr}{xs:List V}{o:HO}(h:H D=some (.lst xs)):Tups H (upd H D o):=fun b ys e=>by rw[zb8 (ne_of e h (by intro z;cases z))];exact e
end Pq
namespace L2
open PySem PySem.Spec PyProof.Rows
section
variable {κ:Type}[DecidableEq κ]
def ye8(kvs:List (κ×V))(k:κ):Option V:=(kvs.find? fun kv=>decide (kv.1=k)).map (·.2)
def ye6(kvs:List (κ×V))(k:κ)(v:V):List (κ×V):=
 if(kvs.any fun kv=>decide (kv.1=k))=true then kvs.map (fun kv=>if kv.1=k then(kv.1,v) else kv) else kvs++[(k,v)]
def dropK(kvs:List (κ×V))(k:κ):List (κ×V):=kvs.filter fun kv=>decide (kv.1≠k)
theorem zw9{p:κ×V}{r:List (κ×V)}{k:κ}(e:p.1=k):ye8 (p::r) k=some p.2:=by simp[ye8,List.find?_cons,e]
theorem zx0{p:κ×V}{r:List (κ×V)}{k:κ}(e:¬p.1=k):ye8 (p::r) k=ye8 r k:=by simp[ye8,List.find?_cons,e]
theorem yh1(k:κ):∀kvs:List (κ×V),(kvs.any fun kv=>decide (kv.1=k))=(ye8 kvs k).isSome
 |[]=>rfl
 |p::r=>by
  rw[List.any_cons]
  by_cases e:p.1=k
  ·simp only[zw9 e,decide_eq_true e,Bool.true_or,Option.isSome_some]
  ·rw[zx0 e,decide_eq_false e,Bool.false_or];exact yh1 k r
theorem yg5(kvs:List (κ×V))(k:κ)(v:V):(ye6 kvs k v).length≤kvs.length+1:=by
 unfold ye6
 split
 ·rw[List.length_map];omega
 ·rw[List.length_append,List.length_cons,List.length_nil];omega
theorem RelO.isSome_eq{o:Option V}{u:Option Value}(r:RelO o u):o.isSome=u.isSome:=by
 cases o with
 |none=>cases u with
  |none=>rfl
  |some _=>exact(show False from r).elim
 |some _=>cases u with
  |none=>exact(show False from r).elim
  |some _=>rfl
theorem RelO.getD{o:Option V}{u:Option Value}{d:V}{d':Value}(r:RelO o u)(rd:RelV d d'):RelV (o.getD d) (u.getD d'):=by
 cases o with
 |none=>cases u with
  |none=>exact rd
  |some _=>exact(show False from r).elim
 |some _=>cases u with
  |none=>exact(show False from r).elim
  |some _=>exact r
theorem KV.val{kvs:List (κ×V)}{vs:List (κ×Value)}(r:KV kvs vs)(k:κ):RelO (ye8 kvs k) (valueAt vs k):=by
 unfold KV at r
 induction r with
 |nil=>exact True.intro
 |@cons p q ps qs h t ih=>
  obtain⟨h1,h2⟩:=h
  by_cases e:p.1=k
  ·have e':q.1=k:=h1.symm.trans e
   have b:valueAt (q::qs) k=some q.2:=by simp[valueAt,List.find?_cons,e']
   rw[zw9 e,b];exact h2
  ·have e':¬q.1=k:=fun z=>e (h1.trans z)
   have b:valueAt (q::qs) k=valueAt qs k:=by simp[valueAt,List.find?_cons,e']
   rw[zx0 e,b];exact ih
theorem KV.any{kvs:List (κ×V)}{vs:List (κ×Value)}(r:KV kvs vs)(k:κ):(kvs.any fun kv=>decide (kv.1=k))=vs.any fun kv=>decide (kv.1=k):=by
 unfold KV at r
 induction r with
 |nil=>rfl
 |cons h t ih=>rw[List.any_cons,List.any_cons,ih,h.1]
theorem KV.repl{kvs:List (κ×V)}{vs:List (κ×Value)}(r:KV kvs vs)(k:κ){y:V}{u:Value}(ry:RelV y u):
  KV (kvs.map fun kv=>if kv.1=k then(kv.1,y) else kv) (vs.map fun kv=>if kv.1=k then(kv.1,u) else kv):=by
 unfold KV at r ⊢
 induction r with
 |nil=>exact .nil
 |@cons p q ps qs h t ih=>
  rw[List.map_cons,List.map_cons]
  refine .cons ?_ ih
  obtain⟨h1,h2⟩:=h
  by_cases e:p.1=k
  ·rw[if_pos e,if_pos (h1.symm.trans e)];exact⟨h1,ry⟩
  ·rw[if_neg e,if_neg (fun z=>e (h1.trans z))];exact⟨h1,h2⟩
theorem KV.put{kvs:List (κ×V)}{vs:List (κ×Value)}(r:KV kvs vs)(k:κ){y:V}{u:Value}(ry:RelV y u):KV (ye6 kvs k y) (stored vs k u):=by
 unfold ye6 stored
 rw[r.any k]
 by_cases e:(vs.any fun kv=>decide (kv.1=k))=true
 ·rw[if_pos e,if_pos e];exact r.repl k ry
 ·rw[if_neg e,if_neg e];exact Paired.snoc r ⟨rfl,ry⟩
theorem KV.drop{kvs:List (κ×V)}{vs:List (κ×Value)}(r:KV kvs vs)(k:κ):KV (dropK kvs k) (without vs k):=by
 unfold KV at r ⊢
 unfold dropK without
 induction r with
 |nil=>exact .nil
 |@cons p q ps qs h t ih=>
  obtain⟨h1,h2⟩:=h
  rw[List.filter_cons,List.filter_cons]
  by_cases e:p.1=k
  ·have a:¬decide (p.1≠k)=true:=by simp[e]
   have b:¬decide (q.1≠k)=true:=by simp[h1.symm.trans e]
   rw[if_neg a,if_neg b];exact ih
  ·have e':¬q.1=k:=fun z=>e (h1.trans z)
   have a:decide (p.1≠k)=true:=by simp[e]
   have b:decide (q.1≠k)=true:=by simp[e']
   rw[if_pos a,if_pos b];exact .cons ⟨h1,h2⟩ ih
theorem KV.keys{kvs:List (κ×V)}{vs:List (κ×Value)}(r:KV kvs vs):kvs.map (·.1)=vs.map (·.1):=by
 unfold KV at r
 induction r with
 |nil=>rfl
 |cons h t ih=>rw[List.map_cons,List.map_cons,ih,h.1]
theorem KV.length{kvs:List (κ×V)}{vs:List (κ×Value)}(r:KV kvs vs):kvs.length=vs.length:=Paired.length r
end
theorem kV_is{P:Program}{w:World}{k:Key}{u:Value}(r:RelV (kV k) u):(zg0 P w).is k u=true:=by
 cases k with
 |inl i=>obtain⟨t,e⟩:=(show ∃t,u=Value.int i t from r);subst e;exact yg1 P w i t
 |inr x=>obtain⟨t,e⟩:=(show ∃t,u=Value.str x t from r);subst e;exact yg0 P w x t
theorem yc7{P:Program}{w:World}:∀ {ks:List Key} {us:List Value},Vals (ks.map kV) us→ItemsAre (zg0 P w) ks us
 |[],_,r=>by rw[List.map_nil] at r;cases r;exact .nil
 |k::ks,_,r=>by
  rw[List.map_cons] at r
  cases r with
  |cons h t=>exact .cons (kV_is h) (yc7 t)
abbrev KT(H:Hp):List (List Key×V)→List (List Key×Addr×Value)→Prop:=Paired fun p q=>p.1=q.1∧H q.2.1=some (.tup (p.1.map kV))∧RelV p.2 q.2.2
theorem KT.val{H:Hp}{kvs:List (List Key×V)}{xs:List (List Key×Addr×Value)}(r:KT H kvs xs)(k:List Key):RelO (ye8 kvs k) ((atKey xs k).map (·.2)):=by
 induction r with
 |nil=>exact True.intro
 |@cons p q ps qs h t ih=>
  obtain⟨h1,_,h2⟩:=h
  by_cases e:p.1=k
  ·have e':q.1=k:=h1.symm.trans e
   have b:atKey (q::qs) k=some q.2:=by simp[atKey,List.find?_cons,e']
   rw[zw9 e,b];exact h2
  ·have e':¬q.1=k:=fun z=>e (h1.trans z)
   have b:atKey (q::qs) k=atKey qs k:=by simp[atKey,List.find?_cons,e']
   rw[zx0 e,b];exact ih
theorem KT.repl{H:Hp}{kvs:List (List Key×V)}{xs:List (List Key×Addr×Value)}(r:KT H kvs xs)(k:List Key){y:V}{u:Value}(ry:RelV y u):
  KT H (kvs.map fun kv=>if kv.1=k then(kv.1,y) else kv) (xs.map (putAt k u)):=by
 induction r with
 |nil=>exact .nil
 |@cons p q ps qs h t ih=>
  rw[List.map_cons,List.map_cons]
  refine .cons ?_ ih
  obtain⟨h1,h2,h3⟩:=h
  unfold putAt
  by_cases e:p.1=k
  ·rw[if_pos e,if_pos (h1.symm.trans e)];exact⟨h1,h2,ry⟩
  ·rw[if_neg e,if_neg (fun z=>e (h1.trans z))];exact⟨h1,h2,h3⟩
theorem KT.put{H:Hp}{kvs:List (List Key×V)}{xs:List (List Key×Addr×Value)}(r:KT H kvs xs)(k:List Key){b:Addr}{y:V}{u:Value}(hb:H b=some (.tup (k.map kV)))(ry:RelV y u):
  KT H (ye6 kvs k y) (storedH xs k b u):=by
 have e:(kvs.any fun kv=>decide (kv.1=k))=(atKey xs k).isSome:=by
  rw[yh1,(r.val k).isSome_eq,Option.isSome_map]
 unfold ye6 storedH
 rw[e]
 by_cases q:(atKey xs k).isSome=true
 ·rw[if_pos q,if_pos q];exact r.repl k ry
 ·rw[if_neg q,if_neg q];exact Paired.snoc r ⟨rfl,hb,ry⟩
theorem KT.keeps{H H':Hp}{kvs:List (List Key×V)}{xs:List (List Key×Addr×Value)}(r:KT H kvs xs)(ht:∀b ys,H b=some (.tup ys)→H' b=some (.tup ys)):KT H' kvs xs:=
 Paired.mapP r fun _ _ z=>⟨z.1,ht _ _ z.2.1,z.2.2⟩
section
variable {P:Program}{w:World}{H:Hp}{h:Heap}{a:Addr}
theorem rd_of{u:HO}(ok:HOk P w H h)(e:Rd H a u):ObjOk P w H h a u:=e.ok ok
theorem dk_rd{kvs:List (Key×V)}(ok:HOk P w H h)(e:Rd H a (.dK kvs)):kvs.length≤sizeLine∧(a==sysModules)=false∧∃vs,KV kvs vs∧h.DictOf (zg0 P w) a vs:=
 show ObjOk P w H h a (.dK kvs) from rd_of ok e
theorem dk_of{kvs:List (Key×V)}(ok:HOk P w H h)(e:H a=some (.dK kvs)):kvs.length≤sizeLine∧(a==sysModules)=false∧∃vs,KV kvs vs∧h.DictOf (zg0 P w) a vs:=dk_rd ok (.inl e)
theorem key_of{ks:List Key}(ok:HOk P w H h)(e:H a=some (.tup (ks.map kV))):(tupleKind (zg0 P w)).is h ks a:=by
 obtain⟨_,its,r,o,h1,h2,n,h3⟩:=(show ObjOk P w H h a (.tup (ks.map kV)) from ok a _ e)
 exact⟨o,its.toArray,n,h1,h2,h3,by simpa using yc7 r⟩
theorem dt_rd{kvs:List (List Key×V)}(ok:HOk P w H h)(e:Rd H a (.dT kvs)):kvs.length≤sizeLine∧(a==sysModules)=false∧
  ∃xs,KT H kvs xs∧h.DictOfH (tupleKind (zg0 P w)) a xs:=by
 obtain⟨z,y,xs,r,o,es,ep,h1,h2,h3,h4,h5⟩:=(show ObjOk P w H h a (.dT kvs) from rd_of ok e)
 refine⟨z,y,xs,r,o,es,ep,h1,h2,h3,h4,fun x hx=>?_,h5⟩
 have all:∀ {l:List (List Key×V)} {m:List (List Key×Addr×Value)},KT H l m→∀x∈m,(tupleKind (zg0 P w)).is h x.1 x.2.1:=by
  intro l m q
  induction q with
  |nil=>intro x hx;exact nomatch hx
  |@cons p q ps qs hq t ih=>
   intro x hx
   rcases List.mem_cons.mp hx with e|hx
   ·subst e
    exact key_of ok (by rw[←hq.1];exact hq.2.1)
   ·exact ih x hx
 exact all r x hx
end
def DGet(H:Hp)(a:Addr)(y:V)(r:Option V):Prop:=
 (∃kvs k,Rd H a (.dK kvs)∧y=kV k∧r=ye8 kvs k)∨∃kvs k b,Rd H a (.dT kvs)∧y=.ref b∧H b=some (.tup (k.map kV))∧r=ye8 kvs k
def DPut(H:Hp)(a:Addr)(y v:V)(H':Hp):Prop:=
 (∃kvs k,H a=some (.dK kvs)∧y=kV k∧kvs.length<sizeLine∧H'=upd H a (.dK (ye6 kvs k v)))∨
 ∃kvs k b,H a=some (.dT kvs)∧y=.ref b∧H b=some (.tup (k.map kV))∧kvs.length<sizeLine∧H'=upd H a (.dT (ye6 kvs k v))
theorem DGet.k{H:Hp}{a:Addr}{kvs:List (Key×V)}{k:Key}(e:H a=some (.dK kvs)):DGet H a (kV k) (ye8 kvs k):=.inl ⟨kvs,k,.inl e,rfl,rfl⟩
theorem DGet.t{H:Hp}{a b:Addr}{kvs:List (List Key×V)}{k:List Key}(e:H a=some (.dT kvs))(eb:H b=some (.tup (k.map kV))):DGet H a (.ref b) (ye8 kvs k):=.inr ⟨kvs,k,b,.inl e,rfl,eb,rfl⟩
theorem DPut.k{H:Hp}{a:Addr}{kvs:List (Key×V)}{k:Key}{v:V}(e:H a=some (.dK kvs))(hl:kvs.length<sizeLine):DPut H a (kV k) v (upd H a (.dK (ye6 kvs k v))):=.inl ⟨kvs,k,e,rfl,hl,rfl⟩
theorem DPut.t{H:Hp}{a b:Addr}{kvs:List (List Key×V)}{k:List Key}{v:V}(e:H a=some (.dT kvs))(eb:H b=some (.tup (k.map kV)))(hl:kvs.length<sizeLine):
  DPut H a (.ref b) v (upd H a (.dT (ye6 kvs k v))):=.inr ⟨kvs,k,b,e,rfl,eb,hl,rfl⟩
section
variable {X:Cx}{pins:List (Addr×Obj)}{σ:St}{H:Hp}{s:Shared}{a:Addr}{y v:V}{u r:Value}{o:Option V}{A:Around}{E:Value→Shared→Prop}
theorem Inv.big(I:Inv X pins σ H s):sysModules<s.heap.objs.size:=by
 have h:mainGlobals<s.heap.objs.size:=(I.mod.glob.keeps I.bk).lt
 exact Nat.lt_trans (by decide) h
theorem d_getItem{Q:Value→Shared→Prop}(hu:A.units+1<cLine)(I:Inv X pins σ H s)(g:DGet H a y (some v))(ry:RelV y u)(h:∀w' s',Inv X pins σ H s'→RelV v w'→Q w' s'):
  wpAny (model X.prog X.w) A (getItem (.ref a) u) Q E s:=by
 rcases g with⟨kvs,k,e,ey,l⟩|⟨kvs,k,b,e,ey,eb,l⟩
 ·subst ey
  obtain⟨z,hd,vs,rel,dd⟩:=dk_rd I.hok e
  obtain⟨w',hw,rw'⟩:=RelO.some_of (v:=v) (o:=valueAt vs k) (by rw[l];exact rel.val k)
  exact wpAny_getItem_of (kV_is ry) dd.mapOf hw (h w' _ (I.tok _) rw')
 ·subst ey
  cases(show u=Value.ref b from ry)
  obtain⟨z,hd,xs,rel,dd⟩:=dt_rd I.hok e
  obtain⟨w',hw,rw'⟩:=RelO.some_of (v:=v) (o:=(atKey xs k).map (·.2)) (by rw[l];exact rel.val k)
  obtain⟨p,hp,hp2⟩:=Option.map_eq_some_iff.mp hw
  refine wpAny_getItem_heap (tupleKind_room_in1 hu) (key_of I.hok eb) dd hp ?_
  rw[hp2]
  exact h w' _ (I.tok _) rw'
theorem d_write{h':Heap}{t':Nat}{ob:HO}(I:Inv X pins σ H s)(mu:Mut (H a))(hs:Heap.SameBut a s.heap h')(he:∃q,h'.get? a=some q)(new:ObjOk X.prog X.w (upd H a ob) h' a ob):
  Inv X pins σ (upd H a ob) { s with heap:=h',toks:=t' }:=
 I.write (x:=a) (e:=a) mu (.inl rfl) (fun b q hb z=>(hs.2 b hb).trans z) he new
theorem dk_new{P:Program}{w:World}{H':Hp}{h':Heap}{kvs:List (Key×V)}{vs:List (Key×Value)}(z:kvs.length≤sizeLine)(hd:(a==sysModules)=false)(rel:KV kvs vs)(dd:h'.DictOf (zg0 P w) a vs):
  ObjOk P w H' h' a (.dK kvs):=⟨z,hd,vs,rel,dd⟩
end
theorem yg6{X:Cx}{pins:List (Addr×Obj)}{σ:St}{H:Hp}{s:Shared}{a:Addr}{y:V}{o:Option V}(I:Inv X pins σ H s)(g:DGet H a y o):s.TypeIs (.ref a) "dict":=by
 rcases g with⟨kvs,k,e,_,_⟩|⟨kvs,k,b,e,_,_,_⟩
 ·obtain⟨_,_,vs,_,dd⟩:=dk_rd I.hok e
  exact dd.typeIs
 ·obtain⟨_,_,xs,_,dd⟩:=dt_rd I.hok e
  exact dd.typeIs
def tDGet(td ty:TE):TE:=fun σ H Q=>td σ H fun x H1=>ty σ H1 fun y H2=>∃a v,x=.ref a∧DGet H2 a y (some v)∧Q v H2
section
variable {X:Cx}{o i e value:Expr}{pos pos' tpos:Pos}{td ty tv:TE}
theorem pe_dget(hu:X.A.units+1<cLine)(ho:PE X o td)(hi:PE X i ty)(hs:NoSl i):PE X (.Subscript o i pos) (tDGet td ty):=by
 intro pins s σ H Q I h
 refine subD_of PySem.F.slot_dict_getitem.lookup hs (thn (ho pins s σ H _ I h) fun u s1 ⟨x,H1,I1,rx,q1⟩=>thn (hi pins s1 σ H1 _ I1 q1) fun iv s2 ⟨y,H2,I2,ry,a,v,ex,g,q2⟩=>?_)
 subst ex
 obtain rfl:u=Value.ref a:=rx
 exact⟨yg6 I2 g,d_getItem hu I2 g ry fun w' s3 I3 rw'=>⟨v,H2,I3,rw',q2⟩⟩
end
theorem dk_empty{P:Program}{w:World}{H:Hp}(h:Heap)(hb:sysModules<h.objs.size):ObjOk P w H (h.push { cls:=.type "dict",data:=.dict #[] }) h.objs.size (.dK []):=
 ⟨Nat.zero_le _,beq_eq_false_iff_ne.mpr (Ne.symm (Nat.ne_of_lt hb)),[],.nil,Heap.DictOf.new h⟩
def tPairs:List (TE×TE)→St→Hp→(List (V×V)→Hp→Prop)→Prop
 |[],_,H,Q=>Q [] H
 |(tk,tv)::r,σ,H,Q=>tk σ H fun x H1=>tv σ H1 fun y H2=>tPairs r σ H2 fun ps H3=>Q ((x,y)::ps) H3
abbrev VV:List (V×V)→List (Value×Value)→Prop:=Paired fun p q=>RelV p.1 q.1∧RelV p.2 q.2
def PPs(X:Cx)(pos:Pos)(keys:List (Option Expr))(values:List Expr)(trs:List (TE×TE)):Prop:=
 ∀(pins:List (Addr×Obj)) (s:Shared) (σ:St) (H:Hp) (Q:List (V×V)→Hp→Prop),Inv X pins σ H s→tPairs trs σ H Q→
  wpAny (model X.prog X.w) X.A (evalPairs (pairTrees keys values X.env pos)) (fun vs s'=>∃ps H',Inv X pins σ H' s'∧VV ps vs∧Q ps H') X.xe s
theorem pps_nil{X:Cx}{pos:Pos}:PPs X pos [] [] []:=fun pins s σ H Q I h=>pairTrees_nil_walk ⟨[],H,I,.nil,h⟩
theorem yi8{X:Cx}{pos:Pos}{k v:Expr}{ks:List (Option Expr)}{vs:List Expr}{tk tv:TE}{trs:List (TE×TE)}(hk:PE X k tk)(hv:PE X v tv)(hr:PPs X pos ks vs trs):
  PPs X pos (some k::ks) (v::vs) ((tk,tv)::trs):=fun pins s σ H Q I h=>
 pairTrees_cons_walk (thn (hk pins s σ H _ I h) fun u s1 ⟨x,H1,I1,rx,q1⟩=>thn (hv pins s1 σ H1 _ I1 q1) fun w2 s2 ⟨y,H2,I2,ry,q2⟩=>
  thn (hr pins s2 σ H2 _ I2 q2) fun ws s3 ⟨ps,H3,I3,rel,q3⟩=>⟨(x,y)::ps,H3,I3,.cons ⟨rx,ry⟩ rel,q3⟩)
def zo4(kvs more:List (Key×V)):List (Key×V):=more.foldl (fun acc kv=>ye6 acc kv.1 kv.2) kvs
theorem KV.merge:∀ {more:List (Key×V)} {rs:List (Key×Value)} {kvs:List (Key×V)} {vs:List (Key×Value)},KV more rs→KV kvs vs→KV (zo4 kvs more) (merged vs rs):=by
 intro more rs kvs vs r
 unfold KV at r
 induction r generalizing kvs vs with
 |nil=>intro q;exact q
 |@cons p q ps qs h t ih=>
  intro r0
  have e:KV (ye6 kvs p.1 p.2) (stored vs q.1 q.2):=by
   have:=r0.put p.1 h.2
   rw[←h.1];exact this
  exact ih e
theorem zo5:∀(more kvs:List (Key×V)),(zo4 kvs more).length≤kvs.length+more.length
 |[],kvs=>by show kvs.length≤kvs.length+0;omega
 |p::r,kvs=>by
  have h1:=zo5 r (ye6 kvs p.1 p.2)
  have h2:=yg5 kvs p.1 p.2
  show(zo4 (ye6 kvs p.1 p.2) r).length≤_
  rw[List.length_cons];omega
theorem zw6{P:Program}{w:World}:∀ {kvs:List (Key×V)} {ws:List (Value×Value)},VV (kvs.map fun kv=>(kV kv.1,kv.2)) ws→∃rs,Carries (zg0 P w) ws rs∧KV kvs rs
 |[],_,r=>by rw[List.map_nil] at r;cases r;exact⟨[],True.intro,.nil⟩
 |p::kvs,_,r=>by
  rw[List.map_cons] at r
  cases r with
  |@cons a b as bs h t=>
   obtain⟨rs,c,q⟩:=zw6 (P:=P) (w:=w) t
   obtain⟨b1,b2⟩:=b
   exact⟨(p.1,b2)::rs,⟨kV_is h.1,rfl,c⟩,.cons ⟨rfl,h.2⟩ q⟩
def tDisp(trs:List (TE×TE)):TE:=fun σ H Q=>∀p,H p=none→tPairs trs σ (upd H p (.dK [])) fun ps H2=>H2 p=some (.dK [])∧∃kvs:List (Key×V),ps=kvs.map (fun kv=>(kV kv.1,kv.2))∧kvs.length≤15∧Q (.ref p) (upd H2 p (.dK (zo4 [] kvs)))
theorem pe_disp{X:Cx}{pos:Pos}{keys:List (Option Expr)}{values:List Expr}{trs:List (TE×TE)}(h:PPs X pos keys values trs)(hall:keys.all (·.isSome)=true)(hl:keys.length=values.length)(h0:keys≠[])
  (h15:keys.length≤15):PE X (.Dict keys values pos) (tDisp trs):=by
 intro pins s σ H Q I q
 have hn:=I.hok.fresh (Nat.le_refl s.heap.objs.size)
 have I1:=I.laid (a:=s.heap.objs.size) (o:=.dK []) (h':=s.heap.push { cls:=.type "dict",data:=.dict #[] }) (t':=s.toks) (fun _ _ q=>Heap.get?_push_of_some _ q) (Nat.le_refl _) (dk_empty s.heap I.big)
 refine wpAny_Dict_walk (knd:=zg0 X.prog X.w) hall hl h0 h15 (thn (h pins _ σ _ _ I1 (q _ hn)) fun ws s2 ⟨ps,H2,I2,rel,e,kvs,ep,lk,q2⟩=>?_)
 subst ep
 obtain⟨rs,c,rk⟩:=zw6 (P:=X.prog) (w:=X.w) rel
 obtain⟨z,hd,vs0,r0,dd⟩:=dk_of I2.hok e
 cases r0
 refine⟨rs,c,dd,fun h' dd' hs=>⟨.ref s.heap.objs.size,_,?_,rfl,q2⟩⟩
 have hz:(zo4 [] kvs).length≤sizeLine:=by
  have h1:=zo5 kvs []
  rw[List.length_nil] at h1
  rw[sizeLine_eq];omega
 have he:∃q,h'.get? s.heap.objs.size=some q:=let ⟨q,_,_,hq,_⟩:=dd';⟨q,hq⟩
 exact d_write I2 (by rw[e];exact True.intro) hs he (dk_new hz hd (rk.merge .nil) dd')
section
variable {X:Cx}
theorem KV.at{kvs:List (Key×V)}{vs:List (Key×Value)}(r:KV kvs vs){i:Nat}{k:Key}{x:Value}(h:vs[i]? = some (k,x)):∃y,kvs[i]? = some (k,y)∧RelV y x:=by
 have:∀ {kvs:List (Key×V)} {vs:List (Key×Value)} (i:Nat),Paired (fun(p:Key×V) (q:Key×Value)=>p.1=q.1∧RelV p.2 q.2) kvs vs→vs[i]? = some (k,x)→∃y,kvs[i]? = some (k,y)∧RelV y x:=by
  intro kvs vs i r
  induction r generalizing i with
  |nil=>intro h;simp at h
  |@cons p q _ _ e t ih=>
   intro h
   cases i with
   |zero=>
    simp at h
    subst h
    obtain⟨p1,p2⟩:=p
    obtain⟨e1,e2⟩:=e
    have e1:p1=k:=e1
    subst e1
    exact⟨p2,rfl,e2⟩
   |succ i=>
    obtain⟨y,h1,h2⟩:=ih i (by simpa using h)
    exact⟨y,by simpa using h1,h2⟩
 exact this i r h
end
section
variable {X:Cx}{o i e value:Expr}{pos pos' tpos:Pos}{td ty tv:TE}
theorem pe_dgetq:∀(hu:X.A.units+1<cLine) (ho:QE X o td) (hi:QE X i ty) (hs:NoSl i),QE X (.Subscript o i pos) (tDGet td ty):=by
 rw[QE_eq]
 intros
 first|exact pe_dget|(apply pe_dget<;>assumption)
end
theorem yb7:∀ {X:Cx} {pos:Pos} {k v:Expr} {ks:List (Option Expr)} {vs:List Expr} {tk tv:TE} {trs:List (TE×TE)} (hk:QE X k tk) (hv:QE X v tv) (hr:PPs X pos ks vs trs),PPs X pos (some k::ks) (v::vs) ((tk,tv)::trs):=by
 rw[QE_eq]
 intros
 first|exact yi8|(apply yi8<;>assumption)
theorem pe_dispq:∀ {X:Cx} {pos:Pos} {keys:List (Option Expr)} {values:List Expr} {trs:List (TE×TE)} (h:PPs X pos keys values trs) (hall:keys.all (·.isSome)=true) (hl:keys.length=values.length) (h0:keys≠[])
  (h15:keys.length≤15),QE X (.Dict keys values pos) (tDisp trs):=by
 rw[QE_eq]
 intros
 first|exact pe_disp|(apply pe_disp<;>assumption)
open PySem PySem.Spec PyProof.Rows Builtin Builtin.ObjectAttr
section
variable {prog:Program}{w:World}{A:Around}{R:Result→Shared→Prop}{h:Heap}{g:Array GenState}{d:Drawn}{t:Nat}{os:OsState}
variable {nm q:Str}{C N:Addr}{bs bm bmB:List Value}{hdct:Bool}{sn:List Str}{sub:List Value}{ab:Bool}{col:Option Bool}{dd:Option Addr}{k0 k1 k2 k3 k5:Option Value}{B Bn newId nid initId inN:String}{bmN:List Value}
abbrev zi3(C:Addr)(t:Addr):Obj:={ cls:=.ref C,data:=.fields #[.ref t,.none,.none,.none,.bool false,.none] }
theorem exc_own(Fn:ExcBaseFacts Bn newId inN bmN)(hBn:bmB.contains (.type Bn)=true)(F:ExcBaseFacts B nid initId bmB)(T:OwnTail h bmB bm){rest:List Value}{fI:Addr}
  (hC:h.get? C=some (excClassObj nm q C N bs bm hdct sn sub ab col dd k0 k1 k2 k3 k5 newId)) (hi:PySem.W.Looks (model prog w) h (typeLookup (.ref C) "__init__") (some (.ref fI)))
  (hb:∀self,PySem.W.Looks (model prog w) h (bindSpecial (.ref fI) self) (.ref fI,[self])) (hrest:rest.length≤sizeLine)
  (hq:codeAny (model prog w) (A.under (.builtin "type.__call__" ⟨.ref C::rest,[]⟩)) (.call (.ref fI) ⟨.ref (h.objs.size+1)::rest,[]⟩) (PySem.W.InitBack (h.objs.size+1) R)
   ⟨(h.push { cls:=.type "tuple",data:=.seq rest.toArray }).push (zi3 C h.objs.size),g,d,t,os⟩):
  codeAny (model prog w) A (.call (.ref C) ⟨rest,[]⟩) R ⟨h,g,d,t,os⟩:=by
 have f1:=tc_lookup
 have f2:=tc_bind (.ref C)
 have hT:(⟨h,g,d,t,os⟩:Shared).TypeIs (.ref C) "type":=⟨_,hC,rfl⟩
 refine codeAny_of_tree ?_
 show wpAny _ _ (callAny (.ref C) _) _ _ _
 repeat (any_goals (first|assumption|with_reducible refine wpAny_loadPart_at hC ?_|wp_step))
 refine⟨rfl,?_⟩
 refine codeAny_call_builtin_at (Code.quiet_builtin _ (by decide +kernel)) entry_typeCall (wpAny_check_type_call_sub hC ?_)
 repeat (first|with_reducible refine wpAny_loadPart_at hC ?_|with_reducible refine wpAny_madeBy_exc hC ?_|wp_step)
 refine codeAny_call_builtin_code (Code.quiet_builtin _ Fn.quiet) (wpAny_check_new_subU Fn hBn T hC ?_);refine codeAny_exc_new_subU Fn hBn F T hC ?_ hrest
 show wpAny _ _ _ _ _ _
 have kp:∀b o,h.get? b=some o→((h.push { cls:=.type "tuple",data:=.seq rest.toArray }).push (zi3 C h.objs.size)).get? b=some o:=fun b o e=>Heap.get?_push_of_some _ (Heap.get?_push_of_some _ e)
 have c1:=kp _ _ hC
 have e1:((h.push { cls:=.type "tuple",data:=.seq rest.toArray }).push (zi3 C h.objs.size)).get? (h.objs.size+1)=some (zi3 C h.objs.size):=by heap_get
 have hcC:(Value.ref C::bm).contains (.ref C)=true:=by simp
 unfold isInstance
 repeat (first|with_reducible refine wpAny_loadPart_at e1 ?_|wp_step)
 show wpAny _ _ (isSubtype (.ref C) (.ref C)) _ _ _
 refine wpAny_isSubtype_exc c1 ?_;rw[hcC]
 repeat wp_step
 show wpAny _ _ (typeLookup (.ref C) _) _ _ _
 refine(hi.keeps kp).at ?_
 refine wpAny_holding (wpAny_bind (((hb (.ref (h.objs.size+1))).keeps kp).at ?_))
 refine wpAny_bind (wpAny_call (codeAny_mono hq fun r s' z=>?_))
 rcases r with e|(v|_|_|_)<;>first|exact z|exact z.elim|(try exact z)
 obtain⟨rfl,z⟩:=z
 exact wpAny_pure (wpAny_pure z)
end
section
variable {prog:Program}{w:World}{A:Around}{E:Value→Shared→Prop}{s:Shared}{K:PySem.W.Frag}{x C:Addr}{name:Str}{v:Value}{o:Obj}
def zp3:List Value→Bool
 |.ref _::r=>zp3 r
 |l=>l==zk0
theorem zv0(self:Value):∀ {l:List Value},zp3 l=true→refuseLoop self "__setattr__" l=pure ()
 |.ref c::r,e=>by rw[refuseLoop_ref];exact zv0 self (l:=r) e
 |[],e=>by cases e
 |.type n::r,e=>by rw[show(Value.type n::r)=zk0 from beq_iff_eq.mp e];exact PySem.F.store_ValueError.passes self
 |.none::r,e=>by have:=beq_iff_eq.mp (show((Value.none::r)==zk0)=true from e);cases this
 |.bool b::r,e=>by have:=beq_iff_eq.mp (show((Value.bool b::r)==zk0)=true from e);cases this
 |.int b t::r,e=>by have:=beq_iff_eq.mp (show((Value.int b t::r)==zk0)=true from e);cases this
 |.float b t::r,e=>by have:=beq_iff_eq.mp (show((Value.float b t::r)==zk0)=true from e);cases this
 |.str b t::r,e=>by have:=beq_iff_eq.mp (show((Value.str b t::r)==zk0)=true from e);cases this
 |.bytes b t::r,e=>by have:=beq_iff_eq.mp (show((Value.bytes b t::r)==zk0)=true from e);cases this
 |.builtin b::r,e=>by have:=beq_iff_eq.mp (show((Value.builtin b::r)==zk0)=true from e);cases this
theorem yj7:∀ {l:List Value},zp3 l=true→l.contains (.type "object")=true
 |.ref c::r,e=>by rw[List.contains_cons,yj7 (l:=r) e,Bool.or_true]
 |[],e=>by cases e
 |.type n::r,e=>by rw[show(Value.type n::r)=zk0 from beq_iff_eq.mp e];decide
 |.none::r,e=>by have:=beq_iff_eq.mp (show((Value.none::r)==zk0)=true from e);cases this
 |.bool b::r,e=>by have:=beq_iff_eq.mp (show((Value.bool b::r)==zk0)=true from e);cases this
 |.int b t::r,e=>by have:=beq_iff_eq.mp (show((Value.int b t::r)==zk0)=true from e);cases this
 |.float b t::r,e=>by have:=beq_iff_eq.mp (show((Value.float b t::r)==zk0)=true from e);cases this
 |.str b t::r,e=>by have:=beq_iff_eq.mp (show((Value.str b t::r)==zk0)=true from e);cases this
 |.bytes b t::r,e=>by have:=beq_iff_eq.mp (show((Value.bytes b t::r)==zk0)=true from e);cases this
 |.builtin b::r,e=>by have:=beq_iff_eq.mp (show((Value.builtin b::r)==zk0)=true from e);cases this
theorem exs_set{Q:Unit→Shared→Prop}(X:K.In s.heap)(hx:s.heap.get? x=some o)(hcl:o.cls=.ref C)(hdn:o.dict=none)(hdat:∃vs,o.data=.fields vs)
  (hs:PySem.W.findIn K (.ref C) "__setattr__"=some (some (.builtin "object.__setattr__"))) (hp:(PySem.W.clsIn K C).any (fun cd=>zp3 cd.mro&&cd.hasDict)=true) (ht:PySem.W.findIn K (.ref C) name=some none)
  (h:∀h' tk,h'.get? x=some { o with dict:=some s.heap.objs.size }→h'.Ns1 s.heap.objs.size (fun y=>if y=name then some v else none)→(∀b ob,b≠x→s.heap.get? b=some ob→h'.get? b=some ob)→Q () { s with heap:=h',toks:=tk }):
  wpAny (model prog w) A (setAttr (.ref x) name v) Q E s:=by
 obtain⟨vs,hdat⟩:=hdat
 obtain⟨oc,odi,oda,osl⟩:=o
 dsimp only at hcl hdn hdat
 subst hcl hdn hdat
 have I:PySem.W.InstAt s.heap x ⟨.ref C,none,.fields vs,osl⟩ C none:=⟨hx,rfl,rfl,trivial⟩
 obtain⟨cd,hc,ho⟩:=PySem.W.any_some hp
 obtain⟨hov,hhd⟩:=(Bool.and_eq_true _ _).mp ho
 have SF:=PySem.F.store_object
 have ne:cd.mro.isEmpty=false:=by cases q:cd.mro with|nil=>rw[q] at hov;cases hov|cons _ _=>rfl
 refine PySem.W.set_plain X I hs ?_
 have X1:K.In ({ s with toks:=s.toks+1 }:Shared).heap:=X
 have sub:PySem.W.Looks (model prog w) s.heap (isInstance (.ref x) (.type "object")) true:=I.type.andThen (PySem.W.looks_mroIn X (by unfold PySem.W.mroIn;rw[hc,Option.bind_some,if_neg (by rw[ne];decide),yj7 hov]))
 refine codeAny_call_builtin SF.slot.plain SF.entry (@PySem.W.check_slot (model prog w) _ _ { s with toks:=s.toks+1 } "object.__setattr__" "object" "__setattr__" (.ref x) [.str name s.toks,v] [] _ SF.kind SF.split sub (SF.args (.ref x) (.str name s.toks) v) ?_)
 have hm:PySem.W.Looks (model prog w) s.heap (mroOf (.ref C)) cd.mro:=(PySem.W.looks_clsIn X hc).andThen .now
 rw[PySem.W.osa_eq,refuse_eq]
 refine wpAny_bind (wpAny_bind (I.type.at (wpAny_bind (hm.at ?_))))
 rw[zv0 _ hov]
 refine wpAny_pure (wpAny_bind (I.type.at (wpAny_bind ((PySem.W.looks_findIn X ht).at (wpAny_bind (wpAny_pure ?_))))))
 show wpAny _ _ (storeInOwnDict (.ref x) (.ref C) (.str name s.toks) name v false) _ _ _
 have hx1:(s.heap.push { cls:=.type "dict",data:=.dict #[] }).get? x=some ⟨.ref C,none,.fields vs,osl⟩:=Heap.get?_push_of_some _ hx
 have hxs:x≠s.heap.objs.size:=Nat.ne_of_lt (Heap.lt_size hx)
 refine wpAny_bind (wpAny_pure (wpAny_bind (wpAny_bind (wpAny_loadPart hx (wpAny_bind ((PySem.W.looks_clsIn X hc).at ?_))))))
 rw[hhd]
 refine wpAny_bind (wpAny_alloc' (wpAny_bind (wpAny_update' hx1 (wpAny_pure ?_))))
 have g0:((s.heap.push { cls:=.type "dict",data:=.dict #[] }).update x fun o=>{ o with dict:=some s.heap.objs.size }).get? s.heap.objs.size=some { cls:=.type "dict",data:=.dict #[] }:=
  (Heap.get?_update_ne _ _ _ _ hxs.symm).trans (Heap.get?_push_at rfl rfl)
 have n0:((s.heap.push { cls:=.type "dict",data:=.dict #[] }).update x fun o=>{ o with dict:=some s.heap.objs.size }).Ns s.heap.objs.size (fun _=>none):=⟨_, #[],_,g0,rfl,fun e he=>absurd he (by simp),fun _=>rfl⟩
 show wpAny _ _ (storeInDict s.heap.objs.size (.str name s.toks) name v) _ _ _
 unfold storeInDict newKeyGuard
 refine wpAny_bind (wpAny_pure (wpAny_bind (wpAny_nsSet1 (Heap.Ns1.of_empty n0) fun h' hn' hs'=>?_)))
 obtain⟨oD,esD,epD,hoD,hdD,hcD⟩:=hn'.count (Within.cons name v Within.nil)
 refine wpAny_bind (wpAny_lookBehind hoD (by rw[hdD];exact pastItsLine_dict (Nat.le_trans hcD (by rw[List.length_cons,List.length_nil,sizeLine_eq];omega))) ?_)
 refine wpAny_pure (h h' _ ?_ hn' fun b ob hb e=>?_)
 ·exact(hs'.2 x hxs).trans (Heap.get?_update_self _ hx1 rfl)
 ·exact(hs'.2 b (Nat.ne_of_lt (Heap.lt_size e))).trans ((Heap.get?_update_ne _ _ _ _ hb).trans (Heap.get?_push_of_some _ e))
end
open PySem PySem.Spec PyProof.Rows Builtin Builtin.ObjectAttr
theorem upd_self{H:Hp}{a:Addr}{o:HO}(h:H a=some o):upd H a o=H:=by
 funext b
 by_cases e:b=a
 ·rw[e,za2,h]
 ·rw[zb8 e]
def excR(x C:Addr):HO:=.ext fun h=>∃t,h.get? x=some (zi3 C t)
def excM(x C d:Addr):HO:=.ext fun h=>∃t,h.get? x=some { zi3 C t with dict:=some d }
theorem excR_ok{P:Program}{w:World}{H:Hp}{h:Heap}{x C t:Addr}(e:h.get? x=some (zi3 C t)):ObjOk P w H h x (excR x C):=⟨⟨t,e⟩,⟨_,e⟩,fun _ _ ⟨t',e'⟩ k=>⟨t',k _ e'⟩⟩
theorem excM_ok{P:Program}{w:World}{H:Hp}{h:Heap}{x C d t:Addr}(e:h.get? x=some { zi3 C t with dict:=some d }):ObjOk P w H h x (excM x C d):=⟨⟨t,e⟩,⟨_,e⟩,fun _ _ ⟨t',e'⟩ k=>⟨t',k _ e'⟩⟩
def excFn(K:PySem.W.Frag)(C:Addr):Bool:=match K.lookup C with
 |some ⟨.type "type",_,.cls cd,sl⟩=>(match cd.mro,sl.toList with
  |.ref C'::bm,[_,_,_,_,some (.builtin n),_]=>C'==C&&n=="ValueError.__new__" && !cd.hasDel&&PySem.W.tailIn K zk0 bm
  |_,_=>false)
 |_=>false
theorem yd3{K:PySem.W.Frag}{C:Addr}{h:Heap}(q:excFn K C=true)(X:K.In h):∃bm N nm qn bs hd sn sub ab col dd k0 k1 k2 k3 k5,
  h.get? C=some (excClassObj nm qn C N bs bm hd sn sub ab col dd k0 k1 k2 k3 k5 "ValueError.__new__")∧OwnTail h zk0 bm:=by
 unfold excFn at q
 split at q
 ·rename_i dd cd sl ho
  split at q
  ·rename_i C' bm k0 k1 k2 k3 n k5 hm hs
   rw[Bool.and_eq_true,Bool.and_eq_true,Bool.and_eq_true] at q
   obtain⟨⟨⟨z1,z2⟩,z3⟩,z4⟩:=q
   obtain rfl:=beq_iff_eq.mp z1
   obtain rfl:=beq_iff_eq.mp z2
   have z3':=(Bool.not_eq_true' _).mp z3
   obtain⟨nm,bs,mro,ns,qn,hd,sn,sub,ab,col,del⟩:=cd
   obtain⟨sl⟩:=sl
   obtain rfl:sl=_:=hs
   obtain rfl:mro=_:=hm
   obtain rfl:del=false:=z3'
   exact⟨bm,ns,nm,qn,bs,hd,sn,sub,ab,col,dd,k0,k1,k2,k3,k5,X _ _ ho,PySem.W.tail_of_in X z4⟩
  ·cases q
 ·cases q
structure OwnX(K:PySem.W.Frag)(C f B:Addr)(nm:Str):Prop where
 cls:excFn K C=true
 init:PySem.W.findIn K (.ref C) "__init__"=some (some (.ref f))
 fn:PySem.W.isFn K (.ref f)=true
 kp:PySem.W.keepIn K (.ref C)=true
 rd:PySem.W.readsIn K B (.type "type")=true
 fc:∃c,PySem.W.findCls K (.ref B) (.type "type") "__init__"=some c∧c=.val (.builtin "ValueError.__init__")
 sg:PySem.W.specialIn K (.ref B) "__getattribute__"=some (some (.builtin "type.__getattribute__"))
 sa:PySem.W.findIn K (.ref C) "__setattr__"=some (some (.builtin "object.__setattr__"))
 ov:(PySem.W.clsIn K C).any (fun cd=>zp3 cd.mro&&cd.hasDict)=true
 na:PySem.W.findIn K (.ref C) nm=some none
section
variable {X:Cx}{C f B:Addr}{nm n:Str}{e:Expr}{es:List Expr}{ta:TA}{te tv:TE}{np apos pos p1 p2 p3:Pos}
def tSup(C:Addr)(ta:TA):TE:=fun σ H Q=>ta σ H fun vs H1=>∃x m,vs=[.ref x,.str m]∧H1 x=some (excR x C)∧Q .non H1
theorem pe_sup{pl:Sem Bool}(Z:OwnX X.K C f B nm)(hg:Gl X n)(hm:X.mg n=some (.ref B))(ha:PA X (e::es) ta)(hd:(n==("__debug__":Str))=false:=by decide)
  (hst:starEach (e::es) X.env=(false,eval e X.env)::starEach es X.env:=by rfl) (hpl:(backTo pos (starEach es X.env)).any (·.1)=false:=by rfl)
  (ht:eval (.Call (.Attribute (.Name n np) "__init__" apos) (e::es) [] pos) X.env=(do
   let ov ←eval (.Name n np) X.env
   standAt apos.atName
   let (f,first) ←holding [ov] (getMethod ov "__init__" pl)
   callWith pos f first (backTo pos (starEach (e::es) X.env)) (backToKw pos (keywordEach [] X.env))):=by rfl):
  PE X (.Call (.Attribute (.Name n np) "__init__" apos) (e::es) [] pos) (tSup C ta):=by
 intro pins s σ H Q I h
 refine PySem.W.methodCall_KW (pl:=pl) (zn6 I hg hm ?_ hd) ht
 obtain⟨c,hc,ec⟩:=Z.fc
 rw[ec] at hc
 refine PySem.W.method_cls I.kIn Z.sg (PySem.W.cls_value I.kIn Z.rd hc rfl ?_)
 have hA:=ha pos pins _ σ H _ (I.tok (s.toks+1)) h
 rw[hst] at hA ⊢
 refine Calls.callWith_builtin (by show(false||(backTo pos (starEach es X.env)).any (·.1))=false;rw[hpl];rfl) (Calls.evalArgs_plain (thn hA fun us s1 ⟨vs,H1,I1,r,x,m,ev,hx,q⟩=>?_))
 subst ev
 obtain⟨u,ut,rfl,ru,rt⟩:=vals2 r
 cases(show u=Value.ref x from ru)
 obtain⟨t0,rfl⟩:=(show ∃t,ut=Value.str m t from rt)
 have F:=PySem.F.excBase_ValueError
 obtain⟨bm,N,nm',qn,bs,hdc,sn,sub,ab,col,dd,k0,k1,k2,k3,k5,hobj,T⟩:=yd3 Z.cls I1.kIn
 obtain⟨⟨t1,e1⟩,_,_⟩:=(show ObjOk X.prog X.w H1 s1.heap x (excR x C) from I1.hok x _ hx)
 have I1':=I1
 obtain⟨hh,g,d,t,os⟩:=s1
 refine wpAny_call (codeAny_call_builtin F.init.plain F.initEntry (wpAny_check_init_subU F T hobj e1 rfl ?_))
 have hget:(hh.push { cls:=.type "tuple",data:=.seq #[Value.str m t0] }).get? x=some (zi3 C t1):=Heap.get?_push_of_some _ e1
 repeat (first|with_reducible refine wpAny_loadPart_at hget ?_|wp_step)
 have kp:∀b u,hh.get? b=some u→(hh.push { cls:=.type "tuple",data:=.seq #[Value.str m t0] }).get? b=some u:=fun b u z=>Heap.get?_push_of_some _ z
 have I2:=I1'.kept (h':=hh.push { cls:=.type "tuple",data:=.seq #[Value.str m t0] }) (t':=t) kp
 have g1:((hh.push { cls:=.type "tuple",data:=.seq #[Value.str m t0] }).update x (Obj.mapFields fun y=>y.setIfInBounds 0 (Value.ref hh.objs.size))).get? x=some (zi3 C hh.objs.size):=Heap.get?_update_self _ hget rfl
 have I3:=I2.write (x:=x) (e:=x) (o:=excR x C) (t':=t) (h':=(hh.push { cls:=.type "tuple",data:=.seq #[Value.str m t0] }).update x (Obj.mapFields fun y=>y.setIfInBounds 0 (Value.ref hh.objs.size)))
  (by rw[hx];exact True.intro) (.inl rfl) (fun b u hb z=>(Heap.get?_update_ne _ _ _ _ hb).trans z) ⟨_,g1⟩ (excR_ok g1)
 rw[upd_self hx] at I3
 exact⟨.non,H1,I3,rfl,q⟩
def tFint(pre:Str)(te:TE):TE:=fun σ H Q=>te σ H fun v H1=>∃i:Int,v=.int i∧i.natAbs.log2<1920∧∀m,Q (.str m) H1
theorem pe_fint{pre:Str}{j}(he:PE X e te)(hp:pre.length≤1000):PE X (.JoinedStr [.Constant (.str pre) j p1,.FormattedValue e (-1) none p2] pos) (tFint pre te):=by
 intro pins s σ H Q I h
 have e0:(Str.empty++pre).length≤1000:=by rw[strLen_append];exact(Nat.zero_add _).symm▸hp
 refine JoinedStr_many (joinParts_cons (Calls.Constant_str ?_))
 refine⟨by rw[sizeLine_eq];omega,?_⟩
 refine joinParts_cons (FormattedValue_plain (thn (he pins _ σ H _ (I.tok _) h) fun u s1 ⟨v,H1,I1,r,i,ev,hi,q⟩=>?_))
 subst ev
 obtain⟨t',rfl⟩:=(show ∃t,u=Value.int i t from r)
 have hl:(Str.empty++pre++Str.ofString (toString i)).length≤sizeLine:=by
  have:=int_text_length_le (k:=1920) (by decide) hi
  rw[strLen_append,PySem.ofString_length,sizeLine_eq];omega
 exact formatField_int_small hi ⟨hl,joinParts_nil ⟨.str _,H1,I1.tok _,⟨_,rfl⟩,q _⟩ hl⟩
def sXset(C:Addr)(ta tv:TE)(nm:Str):TS:=fun D σ H=>tv σ H fun y H1=>ta σ H1 fun x H2=>∃a,x=.ref a∧H2 a=some (excR a C)∧∀d,H2 d=none→d≠a→D.nx σ (upd (upd H2 d (.xd [(nm,y)])) a (excM a C d))
theorem ps_xset{o value:Expr}{te tv:TE}(Z:OwnX X.K C f B nm)(ha:PE X o te)(hv:PE X value tv)(hs:swapsWith value (some (.Attribute o nm p1)) pos.line X.env=pure false):
  PS X (.Assign [.Attribute o nm p1] value pos) (sXset C te tv nm):=by
 intro pins s σ H D I h
 refine plainObj_wpAny_Assign_Attribute (thn (hv pins s σ H _ I h) fun uy s1 ⟨y,H1,I1,ry,q⟩=>thn (ha pins s1 σ H1 _ I1 q) fun ov s2 ⟨x,H2,I2,rx,a,ex,ea,q2⟩=>?_) hs
 subst ex
 obtain rfl:ov=Value.ref a:=rx
 obtain⟨⟨t1,e1⟩,_,_⟩:=(show ObjOk X.prog X.w H2 s2.heap a (excR a C) from I2.hok a _ ea)
 refine exs_set I2.kIn e1 rfl rfl ⟨_,rfl⟩ Z.sa Z.ov Z.na fun h' tk g1 g2 g3=>?_
 have hf:H2 s2.heap.objs.size=none:=I2.hok.fresh (Nat.le_refl _)
 have hne:s2.heap.objs.size≠a:=Nat.ne_of_gt (Heap.lt_size e1)
 have at_:∀b u,H2 b=some u→b≠a→(upd (upd H2 s2.heap.objs.size (.xd [(nm,y)])) a (excM a C s2.heap.objs.size)) b=some u:=fun b u z nb=>by
  rw[zb8 nb,zb8 (zb6 z hf)];exact z
 have na:∀b u,H2 b=some u→(∀φ,u≠.ext φ)→b≠a:=fun b u z n eb=>by
  rw[eb,ea] at z
  exact n _ (Option.some.inj z).symm
 refine⟨σ,_,I2.un (t':=tk) (h':=h') (H':=upd (upd H2 s2.heap.objs.size (.xd [(nm,y)])) a (excM a C s2.heap.objs.size)) ⟨fun b ob z n _ _=>?_,fun b ob z n _ _=>?_,fun b ob z n _=>?_,fun b ob z _=>?_,fun b xs z=>?_,fun b ob u z=>?_,fun b ps z=>?_⟩ fun b u z=>?_,q2 _ hf hne⟩
 ·exact g3 b ob (fun eb=>by rw[eb,ea] at n;cases n) z
 ·exact⟨ob.slots,g3 b ob (fun eb=>by rw[eb,ea] at n;cases n) z⟩
 ·have nb:b≠a:=fun eb=>by rw[eb,ea] at n;cases n
  rw[zb8 nb,zb8 (Nat.ne_of_lt (Heap.lt_size z))]
  exact n
 ·by_cases eb:b=a
  ·exact⟨_,eb▸g1⟩
  ·exact⟨ob,g3 b ob eb z⟩
 ·exact at_ b _ z (na b _ z fun φ k=>nomatch k)
 ·exact at_ b _ z (na b _ z fun φ k=>nomatch k)
 ·exact⟨#[],by rw[Array.append_empty];exact at_ b _ z (na b _ z fun φ k=>nomatch k)⟩
 ·by_cases eb:b=a
  ·subst eb
   rw[za2] at z
   cases z
   exact excM_ok g1
  ·rw[zb8 eb] at z
   by_cases ed:b=s2.heap.objs.size
   ·subst ed
    rw[za2] at z
    cases z
    refine⟨_,g2,fun g=>?_⟩
    show RelO (List.lookup g [(nm,y)]) (if g=nm then some uy else none)
    by_cases eg:g=nm
    ·have hb:(g==nm)=true:=beq_iff_eq.mpr eg
     rw[if_pos eg]
     simp only[List.lookup,hb]
     exact ry
    ·have hb:(g==nm)=false:=beq_eq_false_iff_ne.mpr eg
     rw[if_neg eg]
     simp only[List.lookup,hb]
     exact True.intro
   ·rw[zb8 ed] at z
    refine(I2.hok b u z).stay (fun c v hc k=>g3 c v ?_ k) (fun c k=>at_ c _ k (na c _ k fun φ l=>nomatch l)) fun c xs k=>at_ c _ k (na c _ k fun φ l=>nomatch l)
    rcases hc with rfl|hc
    ·exact eb
    ·exact na c _ hc fun φ l=>nomatch l
end
def FlyX(base:Heap)(l:List Env)(e:Addr)(cls:Value)(d:Addr)(fl:Value)(h:Heap):Prop:=
 (base.StaysIn h∧base.get? e=none∧h.FunFrames base l)∧∃(oe:Obj) (vs:Array Value) (T:Addr) (oT:Obj) (ts:Array Value),(h.get? e=some oe∧oe.cls=cls∧oe.dict=some d∧oe.data=.fields vs)∧
  (vs[1]? = some (.ref T)∧base.get? T=none∧T≠e)∧h.get? T=some oT∧oT.data=.fields ts∧ts[3]? = some fl
theorem dict_mapF(o:Obj)(f:Array Value→Array Value):(Obj.mapFields f o).dict=o.dict:=by
 obtain⟨c,d,da,sl⟩:=o
 cases da<;>rfl
section
variable {M:Model}{A:Around}{E:Value→Shared→Prop}{s:Shared}{base:Heap}{env:Env}{outer:List Env}{L e d:Addr}{cls fl:Value}{Q:Unit→Shared→Prop}
theorem entryX{oe:Obj}{vs:Array Value}{hd0:Value}{nx:Bool}(hfr:A.frames=some (env::outer))(fr:s.heap.FunFrames base (env::outer))(hf:env.frame=some L)
  (he:s.heap.get? e=some oe) (hcl:oe.cls=cls) (hdi:oe.dict=some d) (st:base.StaysIn s.heap) (en:base.get? e=none) (hda:oe.data=.fields vs) (sz:1<vs.size)
  (k:∀h',FlyX base (env::outer) e cls d (rawInt L) h'→s.heap.UpToSlots h'→Q () { s with heap:=h' }):
  wpAny M A (do let a ←frameOf env;let pl ←entryPlaceOf L nx;let b ←EntryCells.newEntry hd0 a .none (rawInt L) .none pl;setField (.ref e) 1 b) Q E s:=by
 have nofr:e∉(env::outer).filterMap (·.frame):=fun hm=>by
  obtain⟨_,o,ho,hnf⟩:=fr.mem hm
  rw[he] at ho
  cases ho
  exact hnf vs hda
 refine wpAny_bind (wpAny_frameOf_fun hfr fr hf fun h1 s1=>wpAny_bind (wpAny_entryPlaceOf fun pl hpl=>?_))
 unfold EntryCells.newEntry newFields
 refine wpAny_bind (wpAny_newObj_type ?_ (hpl.sizeOk5 _ _ _ _ _))
 have e1:h1.get? e=some oe:=(s1.2.1 e nofr).trans he
 have st1:base.StaysIn h1:=fun b o z=>(s1.2.1 b fun hm=>by rw[(fr.mem hm).1] at z;cases z).trans (st b o z)
 generalize hN:({ cls:=.type "traceback",dict:=none,data:=.fields ([hd0,.ref L,.none,rawInt L,.none]++(if pl.isEmpty then List.replicate 6 Value.none else pl)).toArray }:Obj)=oN
 have hNd:∃ts,oN.data=.fields ts∧ts[3]? = some (rawInt L):=by
  rw[←hN]
  refine⟨_,rfl,?_⟩
  first|(simp;done)|(rcases hpl with rfl|⟨_,_,_,_,_,_,_,rfl⟩<;>simp)
 have hNf:oN.isFreed=false:=by rw[←hN];rfl
 clear hN
 obtain⟨ts,t1,t2⟩:=hNd
 have e2:(h1.push oN).get? e=some oe:=Heap.get?_push_of_some oN e1
 refine wpAny_setField e2 hda sz ?_
 have Te:h1.objs.size≠e:=Nat.ne_of_gt (Heap.lt_size e1)
 have d3:=Obj.data_mapFields hda (·.setIfInBounds 1 (Value.ref h1.objs.size))
 have g3:=Heap.get?_update_self (Obj.mapFields (·.setIfInBounds 1 (Value.ref h1.objs.size))) e2 (Obj.isFreed_of_fields d3)
 have gT:=(Heap.get?_update_other (h1.push oN) (Obj.mapFields (·.setIfInBounds 1 (Value.ref h1.objs.size))) (Ne.symm Te)).trans (Heap.get?_push_size h1 hNf)
 have keep:∀b o,b≠e→h1.get? b=some o→((h1.push oN).update e (Obj.mapFields (·.setIfInBounds 1 (Value.ref h1.objs.size)))).get? b=some o:=fun b o nb z=>by
  rw[Heap.get?_update_other _ _ (Ne.symm nb)]
  exact Heap.get?_push_of_some _ z
 have noR:∀b o,s.heap.get? b=some o→(∀vs,o.data≠.fields vs)→b≠e:=fun b o z nf q=>by
  rw[q,he] at z
  cases z
  exact nf vs hda
 have up:s.heap.UpToSlots ((h1.push oN).update e (Obj.mapFields (·.setIfInBounds 1 (Value.ref h1.objs.size)))):=fun b o z nf=>by
  obtain⟨sl,q⟩:=s1.2.2 b o z
  exact⟨sl,keep b _ (noR b o z nf) q⟩
 refine k _ ⟨⟨fun b o z=>keep b o (fun q=>by rw[q,en] at z;cases z) (st1 b o z),en,fr.of_keeps fun b o z nf=>?_⟩,?_⟩ up
 ·obtain⟨sl,q⟩:=up b o z nf
  exact⟨_,q,rfl⟩
 ·exact⟨_,_,h1.objs.size,_,ts,⟨g3,(Obj.cls_mapFields _ _).trans hcl,(dict_mapF _ _).trans hdi,d3⟩,⟨by simp[sz],st1.fresh,Te⟩,gT,t1,t2⟩
theorem FlyX.on{h':Heap}{T:Addr}{oT:Obj}{ts:Array Value}{v:Value}{oe:Obj}{vs:Array Value}(c:base.StaysIn s.heap∧base.get? e=none∧s.heap.FunFrames base outer)(a:s.heap.get? e=some oe∧oe.cls=cls∧oe.dict=some d∧oe.data=.fields vs)
  (b:vs[1]? = some (.ref T)∧base.get? T=none∧T≠e) (hT:s.heap.get? T=some oT) (hd:oT.data=.fields ts) (hz:3<ts.size) (eh:h'=s.heap.update T (Obj.mapFields (·.setIfInBounds 3 v))):
  FlyX base outer e cls d v h'∧s.heap.UpToSlots h':=by
 subst eh
 have other:∀b,b≠T→(s.heap.update T (Obj.mapFields (·.setIfInBounds 3 v))).get? b=s.heap.get? b:=fun b hb=>Heap.get?_update_other _ _ (Ne.symm hb)
 have noR:∀b o,s.heap.get? b=some o→(∀vs,o.data≠.fields vs)→b≠T:=fun b o z nf q=>by
  rw[q,hT] at z
  cases z
  exact nf ts hd
 have keep:∀b o,s.heap.get? b=some o→(∀vs,o.data≠.fields vs)→(s.heap.update T (Obj.mapFields (·.setIfInBounds 3 v))).get? b=some o:=fun b o z nf=>(other b (noR b o z nf)).trans z
 refine⟨⟨⟨fun x o z=>(other x fun q=>by rw[q,b.2.1] at z;cases z).trans (c.1 x o z),c.2.1,c.2.2.of_keeps fun x o z nf=>⟨o,keep x o z nf,rfl⟩⟩,oe,vs,T,_,_,⟨(other e (Ne.symm b.2.2)).trans a.1,a.2⟩,b,Heap.get?_update_self _ hT (Obj.isFreed_of_fields (Obj.data_mapFields hd _)),Obj.data_mapFields hd _,by simp[hz]⟩,fun b o z nf=>⟨o.slots,keep b o z nf⟩⟩
theorem zr7(x:FlyX base outer e cls d fl s.heap)(k:∀h',FlyX base outer e cls d .none h'→s.heap.UpToSlots h'→Q () { s with heap:=h' }):wpAny M A (setFlight (.ref e) none) Q E s:=by
 obtain⟨c,oe,vs,T,oT,ts,a,b,hT,hd,h3⟩:=x
 have hz:3<ts.size:=(Array.getElem?_eq_some_iff.mp h3).1
 unfold setFlight
 refine wpAny_bind (wpAny_field a.1 a.2.2.2 b.1 ?_)
 rw[if_pos (show(Value.ref T != Value.none)=true from by simp)]
 obtain⟨y1,y2⟩:=FlyX.on c a b hT hd hz rfl
 exact wpAny_setField hT hd hz (k _ y1 y2)
theorem noteX(hfr:A.frames=some (env::outer))(hf:env.frame=some L)(x:FlyX base (env::outer) e cls d .none s.heap)
  (k:∀h',FlyX base (env::outer) e cls d (rawInt L) h'→s.heap.UpToSlots h'→Q () { s with heap:=h' }):wpAny M A (noteFrame (.ref e) env) Q E s:=by
 obtain⟨c,oe,vs,T,oT,ts,a,b,hT,hd,h3⟩:=x
 have hz:3<ts.size:=(Array.getElem?_eq_some_iff.mp h3).1
 unfold noteFrame
 simp only[hf]
 refine wpAny_bind (wpAny_field a.1 a.2.2.2 b.1 ?_)
 rw[if_pos (show(Value.ref T != Value.none)=true from by simp)]
 refine wpAny_bind (wpAny_field hT hd h3 ?_)
 rw[if_neg (show ¬((Value.none==rawInt L)=true) from by simp[rawInt])]
 obtain⟨⟨⟨f1,f2,f3⟩,oe',vs',T',oT',ts',a',b',_⟩,y2⟩:=FlyX.on (v:=.none) c a b hT hd hz rfl
 refine wpAny_bind (wpAny_setField hT hd hz ?_)
 exact entryX (s:={ s with heap:=s.heap.update T (Obj.mapFields (·.setIfInBounds 3 .none)) }) hfr f3 hf a'.1 a'.2.1 a'.2.2.1 f1 f2 a'.2.2.2 (Array.getElem?_eq_some_iff.mp b'.1).1 fun h' z u=>k h' z (y2.trans u)
theorem leave0X{oe:Obj}{vs:Array Value}(hfr:A.frames=some (env::outer))(hf:env.frame=some L)(fr:s.heap.FunFrames base (env::outer))(he:s.heap.get? e=some oe)(hcl:oe.cls=cls)(hdi:oe.dict=some d)
  (st:base.StaysIn s.heap) (en:base.get? e=none) (hda:oe.data=.fields vs) (h1:vs[1]? = some .none)
  (k:∀h',FlyX base outer e cls d .none h'→s.heap.UpToSlots h'→Q () { s with heap:=h' }):wpAny M A (leaving env (.ref e)) Q E s:=by
 unfold leaving noteFrame
 simp only[hf]
 refine wpAny_bind (wpAny_bind (wpAny_field he hda h1 ?_))
 rw[if_neg (by decide)]
 refine entryX hfr fr hf he hcl hdi st en hda (Array.getElem?_eq_some_iff.mp h1).1 fun h' z u=>?_
 refine zr7 (s:={ s with heap:=h' }) z fun h2 z2 u2=>?_
 obtain⟨⟨f1,f2,_,_,f3⟩,r⟩:=z2
 exact k h2 ⟨⟨f1,f2,f3⟩,r⟩ (u.trans u2)
theorem leaveX(hfr:A.frames=some (env::outer))(hf:env.frame=some L)(x:FlyX base (env::outer) e cls d .none s.heap)
  (k:∀h',FlyX base outer e cls d .none h'→s.heap.UpToSlots h'→Q () { s with heap:=h' }):wpAny M A (leaving env (.ref e)) Q E s:=by
 unfold leaving
 refine wpAny_bind (noteX hfr hf x fun h' z u=>?_)
 refine zr7 (s:={ s with heap:=h' }) z fun h2 z2 u2=>?_
 obtain⟨⟨f1,f2,_,_,f3⟩,r⟩:=z2
 exact k h2 ⟨⟨f1,f2,f3⟩,r⟩ (u.trans u2)
end
def CXd(P:Program)(w:World):CXT:=fun outer H s E e s'=>
 ∃(a d:Addr) (cls:Value) (H':Hp) (B:Heap),e=.ref a∧s'.os=s.os∧AllBare s'.gens∧Un (frs outer) [] H H' s.heap s'.heap∧HOk P w H' B∧
  (∀b o,s.heap.get? b=some o→H b=none→b∉frs outer→B.get? b=some o)∧(∀b o,s.heap.get? b=some o→b∉frs outer→∃o',B.get? b=some o')∧
  FlyX B outer a cls d .none s'.heap∧E cls (some d) H'
def rem(H:Hp)(e:Addr):Hp:=fun b=>if b=e then none else H b
theorem rem_same{H:Hp}{e:Addr}:rem H e e=none:=by unfold rem;rw[if_pos rfl]
theorem zn9{H:Hp}{e b:Addr}(h:b≠e):rem H e b=H b:=by unfold rem;rw[if_neg h]
theorem yh2{X:Cx}{pins:List (Addr×Obj)}{σ:St}{H H':Hp}{s s':Shared}{B h'':Heap}{outer:List Env}(hX:X.ex=[])(ho:X.outer=outer)(hst:X.stack=X.env::X.outer)
  (I:Inv X pins σ H s) (un:Un (frs X.stack) [] H H' s.heap s'.heap)
  (old:∀b o,s.heap.get? b=some o→H b=none→b∉frs X.stack→B.get? b=some o) (the:∀b u o,X.s₀.heap.get? b=some u→s.heap.get? b=some o→b∉frs X.stack→∃o',B.get? b=some o')
  (fr:s'.heap.FunFrames B X.stack) (st:B.StaysIn h'') (up:s'.heap.UpToSlots h''):
  Un (frs outer) [] X.H₀ H' X.s₀.heap h''∧(∀b o,X.s₀.heap.get? b=some o→X.H₀ b=none→b∉frs outer→B.get? b=some o)∧(∀b o,X.s₀.heap.get? b=some o→b∉frs outer→∃o',B.get? b=some o'):=by
 subst ho
 have nx:∀b:Addr,b∉X.ex:=fun b=>by rw[hX];simp
 have neL:∀b o,X.s₀.heap.get? b=some o→b≠X.env.locals:=fun b o e=>Nat.ne_of_lt (Nat.lt_of_lt_of_le (Heap.lt_size e) I.ok.above)
 have nst:∀b o,X.s₀.heap.get? b=some o→b∉frs X.outer→b∉frs X.stack:=fun b o e hb hz=>by
  rcases List.mem_cons.mp (I.stkSub b hz) with z|z
  ·exact neL b o e z
  ·exact hb z
 have up':∀b,b∈frs X.outer→b∈frs X.stack:=fun b hb=>by
  rw[hst]
  obtain⟨e,he,hf⟩:=List.mem_filterMap.mp hb
  exact List.mem_filterMap.mpr ⟨e,List.mem_cons_of_mem _ he,hf⟩
 have k1:∀b o,X.s₀.heap.get? b=some o→X.H₀ b=none→b∉frs X.outer→B.get? b=some o:=fun b o e n hb=>
  old b o (I.base.keep b o e n hb (nx b)) (I.base.free b o e n (nx b)) (nst b o e hb)
 have k2:∀b o,X.s₀.heap.get? b=some o→b∉frs X.outer→∃o',B.get? b=some o':=fun b o e hb=>by
  obtain⟨o',e'⟩:=I.base.there b o e (nx b)
  exact the b o o' e e' (nst b o e hb)
 have k3:∀b o,X.s₀.heap.get? b=some o→X.H₀ b=none→b∈frs X.outer→∃sl,h''.get? b=some { o with slots:=sl }:=fun b o e n hb=>by
  obtain⟨sl,e1⟩:=I.base.slot b o e n hb (nx b)
  obtain⟨sl',e2⟩:=un.any e1 (I.base.free b o e n (nx b)) (by simp)
  obtain⟨_,o',ho',hnf⟩:=fr.mem (up' b hb)
  rw[e2] at ho'
  cases ho'
  obtain⟨sl2,e3⟩:=up b _ e2 hnf
  exact⟨sl2,e3⟩
 refine⟨⟨fun b o e n hb _=>st b o (k1 b o e n hb),fun b o e n hb _=>k3 b o e n hb,fun b o e n _=>?_,fun b o e _=>?_,fun b xs e=>un.tups b xs (I.base.tups b xs e),fun b o u e=>un.frzs b o u (I.base.frzs b o u e),fun b ps e=>?_⟩,k1,k2⟩
 ·obtain⟨o',e1⟩:=I.base.there b o e (nx b)
  exact un.free b o' e1 (I.base.free b o e n (nx b)) (by simp)
 ·by_cases hb:b∈frs X.outer
  ·obtain⟨_,o',ho',hnf⟩:=fr.mem (up' b hb)
   obtain⟨sl2,e3⟩:=up b _ ho' hnf
   exact⟨_,e3⟩
  ·obtain⟨o',e1⟩:=k2 b o e hb
   exact⟨o',st b o' e1⟩
 ·obtain⟨m1,e1⟩:=I.base.tbls b ps e
  obtain⟨m2,e2⟩:=un.tbls b _ e1
  exact⟨m1++m2,by rw[e2,Array.append_assoc]⟩
def RaisesX(X:Cx)(E:XK):Prop:=∀(pins:List (Addr×Obj)) (σ:St) (H:Hp) (s:Shared) (e C d:Addr) (fs:List (Str×V)),Inv X pins σ H s→H e=some (excM e C d)→H d=some (.xd fs)→X.s₀.heap.get? e=none→E (.ref C) (some d) (rem H e)→X.xe (.ref e) s
section
variable {P:Program}{w:World}{K:PySem.W.Frag}{mg:Str→Option Value}{base:Heap}{N:List Str}{qual:Str}{scope:Scope}{f:Addr}{cd:Value}{A:Around}{outer:List Env}{s0:Shared}{H0:Hp}{E E':XK}
theorem raises_x:RaisesX (yd5 (CXd P w) P w K mg base N qual scope f cd A outer s0 H0 E) E:=by
 intro pins σ H s e C d fs I hM hd hn hE
 generalize hX:yd5 (CXd P w) P w K mg base N qual scope f cd A outer s0 H0 E=X at I hn
 have hin:∀env∈X.stack,∀b,env.frame=some b→b∈e::frs X.stack:=fun env he b hb=>List.mem_cons_of_mem _ (List.mem_filterMap.mpr ⟨env,he,hb⟩)
 have FB:=PySem.W.funFrames_hide I.stack hin
 obtain⟨⟨t,he⟩,_,_⟩:=(show ObjOk X.prog X.w H s.heap e (excM e C d) from I.hok e _ hM)
 have inB:∀b o,s.heap.get? b=some o→b≠e→b∉frs X.stack→(PySem.W.hideAll s.heap (e::frs X.stack)).get? b=some o:=fun b o q ne n=>PySem.W.hideAll_get _ q fun z=>(List.mem_cons.mp z).elim ne n
 have nH:∀b,H b=none→b≠e:=fun b z q=>by rw[q,hM] at z;cases z
 have nX:∀b u,H b=some u→(∀φ,u≠.ext φ)→b≠e:=fun b u z n q=>by
  rw[q,hM] at z
  exact n _ (Option.some.inj z).symm
 have un:Un (frs X.stack) [] H (rem H e) s.heap s.heap:=⟨fun _ _ q _ _ _=>q,fun _ o q _ _ _=>⟨o.slots,q⟩,fun b _ _ z _=>by rw[zn9 (nH b z)];exact z,fun _ o q _=>⟨o,q⟩,
  fun b _ z=>by rw[zn9 (nX b _ z fun φ k=>nomatch k)];exact z,fun b _ _ z=>by rw[zn9 (nX b _ z fun φ k=>nomatch k)];exact z,fun b _ z=>⟨#[],by rw[Array.append_empty,zn9 (nX b _ z fun φ k=>nomatch k)];exact z⟩⟩
 have hok:HOk P w (rem H e) (PySem.W.hideAll s.heap (e::frs X.stack)):=by
  intro a o ea
  have na:a≠e:=fun q=>by rw[q,rem_same] at ea;cases ea
  rw[zn9 na] at ea
  have hok0:ObjOk P w H s.heap a o:=by
   have:=I.hok a o ea
   subst hX
   exact this
  refine hok0.stay (fun b u hb q=>inB b u q ?_ fun hm=>?_) (fun b q=>by rw[zn9 (nX b _ q fun φ k=>nomatch k)];exact q) fun b _ q=>by rw[zn9 (nX b _ q fun φ k=>nomatch k)];exact q
  ·rcases hb with y|y
   ·rw[y];exact na
   ·exact nX b _ y fun φ k=>nomatch k
  ·have z:=I.stkFree b hm
   rcases hb with y|y
   ·subst y;rw[z] at ea;cases ea
   ·rw[z] at y;cases y
 have fin:∀h'',FlyX (PySem.W.hideAll s.heap (e::frs X.stack)) outer e (.ref C) d .none h''→s.heap.UpToSlots h''→CXd P w outer H0 s0 E (.ref e) { s with heap:=h'' }:=by
  intro h'' x1 up
  have u:=yh2 (H':=rem H e) (s':=s) (outer:=outer) (by subst hX;rfl) (by subst hX;rfl) (by subst hX;rfl) I un (fun b o q z hb=>inB b o q (nH b z) hb) (fun b u o q0 q hb=>⟨o,inB b o q (fun z=>by rw[z,hn] at q0;cases q0) hb⟩) FB x1.1.1 up
  subst hX
  obtain⟨u1,u2,u3⟩:=u
  exact⟨e,d,.ref C,rem H e,_,rfl,I.os,I.bare,u1,hok,u2,u3,x1,hE⟩
 have l0:=leave0X (M:=model P w) (A:=X.A) (E:=fun _ _=>False) (Q:=fun _ s'=>CXd P w outer H0 s0 E (.ref e) s') (s:=s) (env:=X.env) (outer:=outer) (cls:=.ref C) (base:=PySem.W.hideAll s.heap (e::frs X.stack)) (e:=e) (d:=d)
  (by rw[I.ok.frames];subst hX;rfl) (by subst hX;rfl) (by subst hX;exact FB) he rfl rfl (fun b o q=>PySem.W.of_hideAll _ q) (PySem.W.hideAll_none _ (List.mem_cons_self ..)) rfl rfl fin
 subst hX
 refine wpAny_mono l0 (fun _ _ z=>z) fun _ _ z=>z.elim
theorem pass_x(hE:∀c o H',E' c o H'→E c o H'):Passes (CXd P w) (yd5 (CXd P w) P w K mg base N qual scope f cd A outer s0 H0 E) E':=by
 intro pins σ H s e s' I h
 obtain⟨a,d,cls,H',B,rfl,os,bare,un,hok,old,the,fl,he⟩:=h
 refine leaveX I.ok.frames rfl fl fun h'' fl' up=>?_
 obtain⟨u1,u2,u3⟩:=yh2 rfl rfl rfl I un old (fun b _ o _ q hb=>the b o q hb) fl.1.2.2 fl'.1.1 up
 exact⟨a,d,cls,H',B,rfl,os.trans I.os,bare,u1,hok,u2,u3,fl',hE _ _ _ he⟩
end
section
variable {M:Model}{A:Around}{E:Value→Shared→Prop}{env:Env}
variable {nm q:Str}{C N:Addr}{bs bm:List Value}{hdct:Bool}{sn:List Str}{sub:List Value}{ab:Bool}{col:Option Bool}{dd:Option Addr}{k0 k1 k2 k3 k5:Option Value}{newId:String}
theorem raise_own{s:Shared}{x:Sem Value}{Q:Flow→Shared→Prop}(hb:bm.contains (.type "BaseException")=true)(hh:A.handled=none)
  (h:wpAny M A x (fun v s1=>∃e t di,v=.ref e∧s1.heap.get? C=some (excClassObj nm q C N bs bm hdct sn sub ab col dd k0 k1 k2 k3 k5 newId)∧s1.heap.get? e=some { zi3 C t with dict:=di }∧E (.ref e) s1) E s):
  wpAny M A (raiseStmt env (some x) none) Q E s:=by
 have hc:(Value.ref C::bm).contains (.type "BaseException")=true:=by rw[List.contains_cons,hb,Bool.or_true]
 unfold raiseStmt
 refine wpAny_bind (wpAny_mono h (fun v s1 h1=>?_) fun _ _ z=>z)
 obtain⟨e,t,di,rfl,hC,he,hE⟩:=h1
 obtain⟨hp,g,d,tk,os⟩:=s1
 unfold zi3 at he
 repeat (first|with_reducible refine wpAny_loadPart_at he ?_|with_reducible refine wpAny_loadPart_at hC ?_|(with_reducible refine wpAny_isSubtype_exc hC ?_;rw[hc])|wp_step)
 exact wpAny_raiseNew_none hh hE
end
section
variable {X:Cx}{E:XK}{C f B:Addr}{nm x:Str}{np cpos pos:Pos}{e0:Expr}{rest:List Expr}{ta:TA}{k:Nat}{fd:FuncData}{ps:List Str}{sp:Sp}
def yn9(E:XK)(C:Addr)(sp:Sp)(ta:TA):TS:=fun _ σ H=>ta σ H fun vs H1=>vs.length≤sizeLine∧∀e,H1 e=none→
 sp (.ref e::vs) (upd H1 e (excR e C)) (fun v H2=>v=.non∧∃d fs,H2 e=some (excM e C d)∧H2 d=some (.xd fs)∧E (.ref C) (some d) (rem H2 e)) E0
theorem yb5(R:RaisesX X E)(Z:OwnX X.K C f B nm)(F:FnOk X.prog X.w X.K X.mg X.base CX0 k f fd ps sp)(hr:Room (k+1) X.A)(hb:Binds X.K fd ps [])(hc:X.calm=true)(hg:Gl X x)(hm:X.mg x=some (.ref C))(ha:PA X (e0::rest) ta)
  (hd:(x==("__debug__":Str))=false:=by decide) (he:starEach (e0::rest) X.env=(false,eval e0 X.env)::starEach rest X.env:=by rfl) (hpl:(backTo cpos (starEach rest X.env)).any (·.1)=false:=by rfl):
  PS X (.Raise (some (.Call (.Name x np) (e0::rest) [] cpos)) none pos) (yn9 E C sp ta):=by
 intro pins s σ H D I h
 obtain⟨bm,N,nm',qn,bs,hdc,sn,sub,ab,col,dd,k0,k1,k2,k3,k5,hobj,T⟩:=yd3 Z.cls I.ok.mod.kin
 have F0:=PySem.F.excBase_ValueError
 rw[arm_exec_Raise]
 refine wpAny_bind (wpAny_standAt (raise_own (C:=C) (bm:=bm) (N:=N) (nm:=nm') (q:=qn) (bs:=bs) (hdct:=hdc) (sn:=sn) (sub:=sub) (ab:=ab) (col:=col) (dd:=dd) (k0:=k0) (k1:=k1) (k2:=k2) (k3:=k3) (k5:=k5) (newId:="ValueError.__new__") (T.hasType F0.hasBase) (I.ok.hd hc)
  (wpAny_bind (wpAny_mono (wpAny_Call_Name_kw (zn6 I hg hm ?_ hd)) (fun v s3 h3=>wpAny_bind (wpAny_standAt (wpAny_pure h3))) fun _ _ z=>z))))
 refine PySem.W.callWith_K (h₀:=X.base) I.ok.mod.kin Z.kp (thn (ha cpos pins s σ H _ I h) fun us s1 ⟨vs,H1,I1,r,hz,q⟩=>⟨I1.kIn,?_⟩) he hpl
 have hq:=q (s1.heap.objs.size+1) (I1.hok.fresh (Nat.le_succ _))
 have hC1:=I1.bk _ _ hobj
 have T1:=T.keeps I1.bk
 have hi:=PySem.W.looks_findIn (M:=model X.prog X.w) I1.kIn Z.init
 have hbd:=fun self=>PySem.W.bind_fn (M:=model X.prog X.w) I1.kIn self (beq_iff_eq.mp Z.fn)
 have hlu:us.length≤sizeLine:=by rw[←r.length];exact hz
 have e1:((s1.heap.push { cls:=.type "tuple",data:=.seq us.toArray }).push (zi3 C s1.heap.objs.size)).get? (s1.heap.objs.size+1)=some (zi3 C s1.heap.objs.size):=by heap_get
 have I2:=I1.laid (a:=s1.heap.objs.size+1) (o:=excR (s1.heap.objs.size+1) C) (t':=s1.toks) (h':=(s1.heap.push { cls:=.type "tuple",data:=.seq us.toArray }).push (zi3 C s1.heap.objs.size))
  (fun b u z=>Heap.get?_push_of_some _ (Heap.get?_push_of_some _ z)) (Nat.le_succ _) (excR_ok e1)
 have nw:X.s₀.heap.get? (s1.heap.objs.size+1)=none:=Heap.get?_none_of_le (Nat.le_trans I1.sz (Nat.le_succ _))
 have r2:Vals (V.ref (s1.heap.objs.size+1)::vs) (Value.ref (s1.heap.objs.size+1)::us):=.cons rfl r
 have hl:(Value.ref (s1.heap.objs.size+1)::us).length=ps.length:=by
  have e:=r2.length
  rw[F.len _ _ _ _ hq] at e
  exact e.symm
 have hbs:=hb _ (Value.ref (s1.heap.objs.size+1)::us) I2.kIn (by rw[List.append_nil];exact hl)
 rw[List.append_nil] at hbs
 have run:=F.run _ X.stack _ _ ⟨Value.ref (s1.heap.objs.size+1)::us,[]⟩ _ _ _ E0 (hr.make C us []) (I2.env0.make C us []) hbs r2 hq
 refine wpAny_call ?_
 obtain⟨hh,g,d,t,os⟩:=s1
 refine exc_own F0 F0.hasB F0 T1 hC1 hi hbd hlu (codeAny_mono run fun r s' hq'=>?_)
 cases r with
 |error e=>exact False.elim hq'
 |ok fl=>
  cases fl with
  |ret u=>
   obtain⟨v,H',I3,rv,ev,d',fs,hM,hx,hE⟩:=I2.after hq'
   subst ev
   obtain⟨⟨t',he'⟩,_,_⟩:=(show ObjOk X.prog X.w H' s'.heap _ (excM _ C d') from I3.hok _ _ hM)
   exact⟨rv,_,t',some d',rfl,I3.bk _ _ hobj,he',R pins σ H' s' _ C d' fs I3 hM hx nw hE⟩
  |next=>exact False.elim hq'
  |brk=>exact False.elim hq'
  |cont=>exact False.elim hq'
end
def excD(a:Addr)(cls:Value)(d:Addr):HO:=.ext fun h=>∃o vs,h.get? a=some o∧o.cls=cls∧o.dict=some d∧o.data=.fields vs
def tTryX(K:PySem.W.Frag)(C:Addr)(i:Nat)(tb:(St→XK)→TS)(th:TS):TS:=fun D σ H=>
 tb (fun σ' cls od H'=>PySem.W.exmOne K cls (.ref C)=some true∧∀a d,od=some d→H' a=none→th { nx:=fun σ2 H2=>D.nx (σ2.set i none) H2,rt:=fun _ _=>False } (σ'.set i (some (.ref a))) (upd H' a (excD a cls d))) D σ H
section
variable {X:Cx}{C:Addr}{i:Nat}{x n:Str}{np hpos pos:Pos}{body suite:List Stmt}{b0:Stmt}{tb:(St→XK)→TS}{th:TS}
theorem ps_tryX(hst:X.stack=X.env::X.outer)(hf:X.env.frame=some X.env.locals)(hex:X.ex=[])(hg:Gl X x)(hm:X.mg x=some (.ref C))(hN:X.N.Nodup)(hi:X.N[i]? = some n)(hl:X.env.scope.names.lookup n=some .local)
  (hbody:∀E pn ES,PassS (CXd X.prog X.w) (X.tried E pn) ES→PSs (X.tried E pn) body (tb ES)) (hsuite:∀A pn,PSs (X.suite A pn) (b0::suite) th) (hd:(x==("__debug__":Str))=false:=by decide):
  PS X (.Try body [.ExceptHandler (some (.Name x np)) (some n) (b0::suite) hpos] [] [] pos) (tTryX X.K C i tb th):=by
 intro pins s σ H D I h
 refine wpAny_Try_except ?_
 refine thn (hbody _ (X.pn++pins) _ ?pas [] s σ H D (I.tried _) h) fun f s1 q =>?fin
 case fin=>
  cases f with
  |next=>obtain⟨σ1,H1,I1,q⟩:=q;exact wpAny_execs_nil ⟨σ1,H1,I1.untried,q⟩
  |brk=>obtain⟨σ1,H1,I1,q⟩:=q;exact⟨σ1,H1,I1.untried,q⟩
  |cont=>obtain⟨σ1,H1,I1,q⟩:=q;exact⟨σ1,H1,I1.untried,q⟩
  |ret u=>obtain⟨v,σ1,H1,I1,r,q⟩:=q;exact⟨v,σ1,H1,I1.untried,r,q⟩
 intro pins' σ' H' s' e s'' I'' hcx
 have I':Inv X pins σ' H' s':=I''.untried
 obtain⟨a,d,cls,H2,B,rfl,os,bare,un,hok,old,the,fl,hmat,hq⟩:=hcx
 have un:Un (frs X.stack) [] H' H2 s'.heap s''.heap:=un
 have old:∀b o,s'.heap.get? b=some o→H' b=none→b∉frs X.stack→B.get? b=some o:=old
 have the:∀b o,s'.heap.get? b=some o→b∉frs X.stack→∃o',B.get? b=some o':=the
 have fl:FlyX B X.stack a cls d .none s''.heap:=fl
 have aB:B.get? a=none:=fl.1.2.1
 have aH:H2 a=none:=by
  cases q:H2 a with
  |none=>rfl
  |some o=>
   obtain⟨ob,e⟩:=(hok a o q).there
   rw[aB] at e;cases e
 have after:∀(h5:Heap),B.StaysIn h5→s''.heap.UpToSlots h5→Un (frs X.stack) [] H' H2 s'.heap h5:=fun h5 f5 up=>by
  have sl:∀b o,s'.heap.get? b=some o→H' b=none→b∈frs X.stack→∃sl,h5.get? b=some { o with slots:=sl }:=fun b o e nn hb=>by
   obtain⟨sl',e2⟩:=un.any e nn (by simp)
   obtain⟨_,o',ho',hnf⟩:=fl.1.2.2.mem hb
   rw[e2] at ho'
   cases ho'
   obtain⟨sl2,e3⟩:=up b _ e2 hnf
   exact⟨sl2,e3⟩
  refine⟨fun b o e nn hb _=>f5 b o (old b o e nn hb),fun b o e nn hb _=>sl b o e nn hb,fun b o e nn _=>un.free b o e nn (by simp),fun b o e _=>?_,un.tups,un.frzs,un.tbls⟩
  by_cases hb:b∈frs X.stack
  ·obtain⟨_,o',ho',hnf⟩:=fl.1.2.2.mem hb
   obtain⟨sl2,e3⟩:=up b _ ho' hnf
   exact⟨_,e3⟩
  ·obtain⟨o',e1⟩:=the b o e hb
   exact⟨o',f5 b o' e1⟩
 have none_a:s'.heap.get? a=none:=by
  cases q:s'.heap.get? a with
  |none=>rfl
  |some o=>
   by_cases hb:a∈frs X.stack
   ·obtain⟨_,o',ho',hnf⟩:=fl.1.2.2.mem hb
    obtain⟨_,oe,vs,_,_,_,⟨he,_,_,hdat⟩,_⟩:=fl
    rw[he] at ho'
    cases ho'
    exact(hnf vs hdat).elim
   ·obtain⟨o',e1⟩:=the a o q hb
    rw[aB] at e1;cases e1
 have hfr:X.A.frames=some (X.env::X.outer):=by rw[←hst];exact I'.ok.frames
 have fl':FlyX B (X.env::X.outer) a cls d .none s''.heap:=by rw[←hst];exact fl
 refine noteX hfr hf fl' fun h4 fl4 up4=>?_
 refine zr7 (s:={ s'' with heap:=h4 }) fl4 fun h5 fl5 up5=>?_
 have up45:=up4.trans up5
 have J5:Inv X pins σ' H2 { s'' with heap:=h5 }:=I'.call' (ch:=[]) (s':={ s'' with heap:=h5 }) os (after h5 fl5.1.1 up45) (hok.kept fl5.1.1) bare (fun b hb=>nomatch hb)
 have hA:(X.A.mark (some (.ref a))).frames=X.A.frames:=rfl
 have J5':=J5.suite hA
 refine wpAny_handleBy_cons (codeAny_handlers_test (zn6 J5' hg hm ?_ hd)) (by intro q;cases q)
 have LT:PySem.W.Looks (model X.prog X.w) h5 (typeOf (.ref a)) cls:=by
  obtain⟨_,oe,vs,_,_,_,⟨he,hc,_,_⟩,_⟩:=id fl5
  exact hc▸(PySem.W.Looks.ld he).andThen .now
 refine PySem.W.Looks.here (s:={ s'' with heap:=h5 }) (PySem.W.exm_one J5.kIn LT hmat) (codeAny_handlers_suite_as ?_)
 refine zr7 (s:={ s'' with heap:=h5 }) fl5 fun h6 fl6 up6=>?_
 have u6:=after h6 fl6.1.1 (up45.trans up6)
 obtain⟨_,oe,vs,_,_,_,⟨hoe,hoec,hoei,hoed⟩,_⟩:=id fl6
 have J6:Inv X pins σ' (upd H2 a (excD a cls d)) { s'' with heap:=h6 }:=by
  refine I'.call' (ch:=[]) (s':={ s'' with heap:=h6 }) os ⟨u6.keep,u6.slot,fun b o e nn hx=>?_,u6.there,fun b xs e=>?_,fun b o u e=>?_,fun b ps e=>?_⟩ ?_ bare (fun b hb=>nomatch hb)
  ·have hne:b≠a:=fun z=>by rw[z,none_a] at e;cases e
   rw[zb8 hne]
   exact u6.free b o e nn hx
  ·have q:=u6.tups b xs e
   rw[zb8 (zb6 q aH)];exact q
  ·have q:=u6.frzs b o u e
   rw[zb8 (zb6 q aH)];exact q
  ·obtain⟨more,q⟩:=u6.tbls b ps e
   exact⟨more,by rw[zb8 (zb6 q aH)];exact q⟩
  ·intro b ob eb
   by_cases hb:b=a
   ·subst hb
    rw[za2] at eb
    cases eb
    exact⟨⟨oe,vs,hoe,hoec,hoei,hoed⟩,⟨oe,hoe⟩,fun g1 g2 ⟨o1,v1,k1,k2⟩ k=>⟨o1,v1,k o1 k1,k2⟩⟩
   ·rw[zb8 hb] at eb
    exact(hok b ob eb).stay (fun c u _ q=>fl6.1.1 c u q) (fun c q=>by rw[zb8 (zb6 q aH)];exact q) fun c xs q=>by rw[zb8 (zb6 q aH)];exact q
 have J6':=J6.suite hA
 refine zx1 (X:=X.suite (X.A.mark (some (.ref a))) (X.pn++pins)) J6' hN hi (.inl hl) (show RelV (.ref a) (.ref a) from rfl) (fun s7 I7=>?_) (.inr hl)
 refine wpAny_mono (hsuite _ _ [] s7 _ _ _ I7 (hq a d rfl aH)) (fun f s8 q8=>?_) fun _ _ z=>z.elim
 cases f with
 |next=>
  obtain⟨σ8,H8,I8,q8⟩:=q8
  exact name_goes (I8.unsuite I'.ok) hN hi hl fun s9 I9=>⟨_,H8,I9,q8⟩
 |brk=>obtain⟨_,_,_,z⟩:=q8;exact z.elim
 |cont=>obtain⟨_,_,_,z⟩:=q8;exact z.elim
 |ret u=>obtain⟨_,_,_,_,_,z⟩:=q8;exact z.elim
end
end L2
namespace PySem.W
open PySem PySem.Calls PyProof.Rows Builtin Builtin.ObjectAttr Builtin.Getset_descriptor
section
variable {prog:Program}{w:World}{A:Around}{E:Value→Shared→Prop}{s:Shared}{K:Frag}{x D:Addr}{name:Str}
theorem exv_code{v:Value}{tk:Tok}{R:Result→Shared→Prop}(X:K.In s.heap)(L0:Looks (model prog w) s.heap (typeOf (.ref x)) (.ref D))(L1:Looks (model prog w) s.heap (find (.ref x) (.ref D) name) (.value v))(hb:mroIn K D (.type "BaseException")=some true)
  (h:R (.ok (.ret v)) s):codeAny (model prog w) A (.call (.builtin "BaseException.__getattribute__") ⟨[.ref x,.str name tk],[]⟩) R s:=by
 refine codeAny_call_builtin F.attr_ValueError.ga.plain F.entry_bexc_ga (yd2 X L0 hb ?_)
 obtain⟨hh,gg,d,t,os⟩:=s
 unfold Builtin.«object.__getattribute__»
 refine wpAny_bind (wpAny_of_eq (a:=(Value.ref x,[Value.str name tk])) rfl ?_)
 exact wpAny_bind (wpAny_of_eq (a:=name) rfl (wpAny_bind (L0.at (wpAny_bind (L1.at (wpAny_pure h))))))
theorem exv_get{v:Value}{expr:Bool}{Q:Value→Shared→Prop}(X:K.In s.heap)(L0:∀M,Looks M s.heap (typeOf (.ref x)) (.ref D))(L1:Looks (model prog w) s.heap (find (.ref x) (.ref D) name) (.value v))(Z:ExqCls K D)(hv:handedIn v=true)
  (h:Q v { s with toks:=s.toks+1 }):wpAny (model prog w) A (getAttr (.ref x) name expr) Q E s:=by
 have La:=looks_findIn (M:=model prog w) X Z.ga
 have Lh:=looks_findIn (M:=model prog w) X Z.gh
 have ne:(Value.builtin "BaseException.__getattribute__"==Value.builtin "object.__getattribute__")=false:=by decide +kernel
 refine wpAny_bind (wpAny_mkText (wpAny_holding (wpAny_bind ((L0 _).here (s:={ s with toks:=s.toks+1 }) (wpAny_bind (La.here (s:={ s with toks:=s.toks+1 }) ?_))))))
 dsimp only
 rw[ne,Bool.and_false,if_neg Bool.false_ne_true]
 refine wpAny_bind (m:=hookBefore (.ref D)) (show wpAny _ _ (typeLookup (.ref D) "__getattr__") _ _ _ from Lh.here (s:={ s with toks:=s.toks+1 }) ?_)
 refine wpAny_bind (wpAny_attempt (wpAny_holding ?_))
 unfold callGetattribute
 rw[show(expr&&onTheHeap (Value.builtin "BaseException.__getattribute__"))=false from Bool.and_false _,if_neg Bool.false_ne_true]
 unfold boundAndCalled
 refine wpAny_bind (wpAny_of_eq (F.attr_ValueError.ga.bind (.ref x)) (wpAny_call (exv_code (s:={ s with toks:=s.toks+1 }) X (L0 _) L1 Z.hb ?_)))
 show wpAny _ _ (handedOut v) _ _ _
 exact handed_on hv h
end
end PySem.W
namespace L2
open PySem PySem.Spec PyProof.Rows
section
variable {X:Cx}{e:Expr}{f:Str}{pos:Pos}{ta:TE}
def tXfld(K:PySem.W.Frag)(ta:TE)(f:Str):TE:=fun σ H Q=>ta σ H fun x H1=>∃a C d fs v,x=.ref a∧H1 a=some (excD a (.ref C) d)∧H1 d=some (.xd fs)∧PySem.W.ExqCls K C∧NoAttr K C f∧PySem.W.hasDictIn K C=true∧fs.lookup f=some v∧Q v H1
theorem pe_xfld(he:PE X e ta)(hb:attributeBase e f X.env (eval e X.env)=eval e X.env):PE X (.Attribute e f pos) (tXfld X.K ta f):=by
 intro pins s σ H Q I h
 refine attr_of hb (thn (he pins s σ H _ I h) fun u s1 ⟨x,H1,I1,rx,a,C,d,fs,v,ex,ea,ed,Z,n,hh,l,q⟩=>?_)
 subst ex
 obtain rfl:u=Value.ref a:=rx
 obtain⟨⟨o,vs,h1,h2,h3,h4⟩,_⟩:=(show ObjOk X.prog X.w H1 s1.heap a (excD a (.ref C) d) from I1.hok a _ ea)
 obtain⟨mA,hn,r⟩:=(show ObjOk X.prog X.w H1 s1.heap d (.xd fs) from I1.hok d _ ed)
 obtain⟨uv,hu,ru⟩:=RelO.some_of (v:=v) (o:=mA f) (by rw[←l];exact r f)
 obtain⟨od,hod,hlk⟩:=yc6 hn
 have J:PySem.W.InstAt s1.heap a o C (some od):=⟨h1,h2,by unfold PySem.W.notCls;rw[h4],by rw[h3];exact hod⟩
 refine PySem.W.exv_get I1.kIn (fun M=>J.type) (PySem.W.looks_find I1.kIn J (PySem.W.findObj_own hh n rfl (by rw[hlk,hu]))) Z (yc9 ru) ?_
 exact⟨v,H1,I1.tok _,ru,q⟩
theorem ya1:CallR X (.builtin "isinstance") (fun xs H Q=>∃a C d c cv b,xs=[.ref a,c]∧H a=some (excD a (.ref C) d)∧PySem.W.ExqCls X.K C∧clsV c=some cv∧PySem.W.kitOne X.K (.ref C) cv=some b∧Q (.bl b) H):=by
 intro pins s σ H xs us Q I rs h
 obtain⟨a,C,d,c,cv,b,rfl,e,Z,hc,hk,q⟩:=h
 obtain⟨u,uc,rfl,ru,rc⟩:=vals2 rs
 have ec:uc=cv:=by
  cases c with
  |ref a=>exact(show uc=Value.ref a from rc).trans (Option.some.inj hc)
  |ty n=>exact(show uc=Value.type n from rc).trans (Option.some.inj hc)
  |_=>cases hc
 subst ec
 cases(show u=Value.ref a from ru)
 obtain⟨⟨o,vs,h1,h2,_⟩,_⟩:=(show ObjOk X.prog X.w H s.heap a (excD a (.ref C) d) from I.hok a _ e)
 exact PySem.W.kia_one (PySem.W.kitx_exq Z) I.kIn ⟨o,h1,h2⟩ hk (fun z=>nomatch z) fun tk=>⟨.bl b,H,I.tok tk,rfl,q⟩
end
section
variable {X:Cx}{e st:Expr}{te ts:TE}{pos p2:Pos}
def tRev(K:PySem.W.Frag)(te ts:TE):TE:=fun σ H Q=>te σ H fun x H1=>ts σ H1 fun y H2=>∃a xs,x=.ref a∧y=.int (-1)∧SqL K H2 a xs∧∀p,H2 p=none→Q (.ref p) (upd H2 p (.lst xs.reverse))
theorem yh0:∀ {xs:List V} {us:List Value},Vals xs us→Vals xs.reverse us.reverse
 |_,_,.nil=>.nil
 |_,_,.cons h t=>by
  rw[List.reverse_cons,List.reverse_cons]
  exact(yh0 t).append (.cons h .nil)
theorem pe_rev(he:PE X e te)(hs:PE X st ts):PE X (.Subscript e (.Slice none none (some st) p2) pos) (tRev X.K te ts):=by
 intro pins s σ H Q I h
 refine Subscript_ (thn (he pins s σ H _ I h) fun v s1 ⟨x,H1,I1,r1,q1⟩=>?_)
 refine wpAny_Slice ?_
 rw[evalPart_none]
 refine wpAny_pure (wpAny_pure ?_)
 rw[evalPart_some]
 refine thn (hs pins s1 σ H1 _ I1 q1) fun u s3 ⟨y,H3,I3,r3,a,xs,ex,ey,hx,q⟩=>?_
 subst ex ey
 cases(show v=Value.ref a from r1)
 obtain⟨tk,rfl⟩:=(show ∃t,u=Value.int (-1) t from r3)
 have I4:Inv X pins σ H3 { s3 with heap:=s3.heap.push { cls:=.type "slice",data:=.fields #[.none,.none,.int (-1) tk] } }:=I3.kept (t':=s3.toks) fun b ob q=>Heap.get?_push_of_some _ q
 obtain⟨its,r,ht,hz⟩:=I4.list hx
 have hlen:=r.length
 show wpAny (model X.prog X.w) X.A (subscriptTail e (.Slice none none (some st) p2) (.ref a) (.ref s3.heap.objs.size)) (EP X pins σ Q) X.xe { s3 with heap:=s3.heap.push { cls:=.type "slice",data:=.fields #[.none,.none,.int (-1) tk] } }
 refine tail_any (ops:=[.ref a,.ref s3.heap.objs.size]) ht.isList.typeIs slot_list_getitem.lookup ?_ (by with_unfolding_all rfl)
 refine wpAny_getItem_list_slice ht.isList (Heap.IsSliceOf.new ..) .none .none (.int _ _) (by decide) ?_ (by rw[List.size_toArray]<;>omega)
 rw[PySem.W.krv_pick]
 refine⟨.ref _,_,I4.laid (t':=s3.toks) (o:=.lst xs.reverse) (fun b ob q=>Heap.get?_push_of_some _ q) (Nat.le_refl _) ?_,rfl,q _ (I4.hok.fresh (Nat.le_refl _))⟩
 exact⟨by rw[List.length_reverse];exact hz,its.reverse,0,yh0 r,Heap.get?_push_size _ rfl⟩
end
open PySem PySem.Spec PyProof.Rows Builtin Builtin.ObjectAttr
section
variable {X:Cx}{C f B:Addr}{nm n:Str}{e:Expr}{es:List Expr}{ta:TA}{te tv:TE}{np apos pos p1 p2 p3:Pos}
theorem pe_supq:∀ {pl:Sem Bool} (Z:OwnX X.K C f B nm) (hg:Gl X n) (hm:X.mg n=some (.ref B)) (ha:QA X (e::es) ta) (hd:(n==("__debug__":Str))=false:=by decide)
  (hst:starEach (e::es) X.env=(false,eval e X.env)::starEach es X.env:=by rfl) (hpl:(backTo pos (starEach es X.env)).any (·.1)=false:=by rfl)
  (ht:eval (.Call (.Attribute (.Name n np) "__init__" apos) (e::es) [] pos) X.env=(do
   let ov ←eval (.Name n np) X.env
   standAt apos.atName
   let (f,first) ←holding [ov] (getMethod ov "__init__" pl)
   callWith pos f first (backTo pos (starEach (e::es) X.env)) (backToKw pos (keywordEach [] X.env))):=by rfl),QE X (.Call (.Attribute (.Name n np) "__init__" apos) (e::es) [] pos) (tSup C ta):=by
 rw[QE_eq,QA_eq]
 intros
 first|exact pe_sup|(apply pe_sup<;>assumption)
theorem pe_fintq:∀ {pre:Str} {j} (he:QE X e te) (hp:pre.length≤1000),QE X (.JoinedStr [.Constant (.str pre) j p1,.FormattedValue e (-1) none p2] pos) (tFint pre te):=by
 rw[QE_eq]
 intros
 first|exact pe_fint|(apply pe_fint<;>assumption)
theorem ps_xsetq:∀ {o value:Expr} {te tv:TE} (Z:OwnX X.K C f B nm) (ha:QE X o te) (hv:QE X value tv) (hs:swapsWith value (some (.Attribute o nm p1)) pos.line X.env=pure false),QS X (.Assign [.Attribute o nm p1] value pos) (sXset C te tv nm):=by
 rw[QE_eq,QS_eq]
 intros
 first|exact ps_xset|(apply ps_xset<;>assumption)
end
section
variable {X:Cx}{E:XK}{C f B:Addr}{nm x:Str}{np cpos pos:Pos}{e0:Expr}{rest:List Expr}{ta:TA}{k:Nat}{fd:FuncData}{ps:List Str}{sp:Sp}
theorem yl6:∀(R:RaisesX X E) (Z:OwnX X.K C f B nm) (F:FnOk X.prog X.w X.K X.mg X.base CX0 k f fd ps sp) (hr:Room (k+1) X.A) (hb:Binds X.K fd ps []) (hc:X.calm=true) (hg:Gl X x) (hm:X.mg x=some (.ref C)) (ha:QA X (e0::rest) ta)
  (hd:(x==("__debug__":Str))=false:=by decide) (he:starEach (e0::rest) X.env=(false,eval e0 X.env)::starEach rest X.env:=by rfl) (hpl:(backTo cpos (starEach rest X.env)).any (·.1)=false:=by rfl),QS X (.Raise (some (.Call (.Name x np) (e0::rest) [] cpos)) none pos) (yn9 E C sp ta):=by
 rw[QA_eq,QS_eq]
 intros
 first|exact yb5|(apply yb5<;>assumption)
end
section
variable {X:Cx}{C:Addr}{i:Nat}{x n:Str}{np hpos pos:Pos}{body suite:List Stmt}{b0:Stmt}{tb:(St→XK)→TS}{th:TS}
theorem ps_tryXq:∀(hst:X.stack=X.env::X.outer) (hf:X.env.frame=some X.env.locals) (hex:X.ex=[]) (hg:Gl X x) (hm:X.mg x=some (.ref C)) (hN:X.N.Nodup) (hi:X.N[i]? = some n) (hl:X.env.scope.names.lookup n=some .local)
  (hbody:∀E pn ES,PassS (CXd X.prog X.w) (X.tried E pn) ES→QSs (X.tried E pn) body (tb ES)) (hsuite:∀A pn,QSs (X.suite A pn) (b0::suite) th) (hd:(x==("__debug__":Str))=false:=by decide),QS X (.Try body [.ExceptHandler (some (.Name x np)) (some n) (b0::suite) hpos] [] [] pos) (tTryX X.K C i tb th):=by
 rw[QS_eq,QSs_eq]
 intros
 first|exact ps_tryX|(apply ps_tryX<;>assumption)
end
end L2
namespace PySem.W
open PySem PySem.Calls PyProof.Rows Builtin Builtin.ObjectAttr Builtin.Getset_descriptor
end PySem.W
namespace L2
open PySem PySem.Spec PyProof.Rows
section
variable {X:Cx}{e:Expr}{f:Str}{pos:Pos}{ta:TE}
theorem yi9:∀(he:QE X e ta) (hb:attributeBase e f X.env (eval e X.env)=eval e X.env),QE X (.Attribute e f pos) (tXfld X.K ta f):=by
 rw[QE_eq]
 intros
 first|exact pe_xfld|(apply pe_xfld<;>assumption)
end
section
variable {X:Cx}{e st:Expr}{te ts:TE}{pos p2:Pos}
theorem pe_revq:∀(he:QE X e te) (hs:QE X st ts),QE X (.Subscript e (.Slice none none (some st) p2) pos) (tRev X.K te ts):=by
 rw[QE_eq]
 intros
 first|exact pe_rev|(apply pe_rev<;>assumption)
end
end L2
namespace Pq
open PySem L2
def top(i:Nat):Stmt:=PySem.Challenge.pw_printwell_k21_wrong_places.main.body.getD i (.Pass ⟨0,0,0,0⟩)
abbrev zy1:Stmt:=zf7 (top 3) 0
abbrev zy0:Stmt:=zf7 (top 11) 0
abbrev sRdAt:Stmt:=zf7 (top 11) 1
abbrev zx6:Stmt:=zf7 (top 11) 2
abbrev zx8:Stmt:=zf7 (top 11) 3
abbrev zx4:Stmt:=zf7 (top 11) 4
abbrev yi0:Stmt:=zf7 (top 11) 5
abbrev zr3:Stmt:=zf7 (top 11) 6
abbrev zr2:Stmt:=zf7 (top 11) 7
abbrev zr0:Stmt:=zf7 (top 11) 8
abbrev yh9:Stmt:=zf7 (top 11) 9
abbrev zx5:Stmt:=zf7 (top 11) 10
abbrev zx7:Stmt:=zf7 (top 11) 11
abbrev zx9:Stmt:=zf7 (top 11) 12
abbrev yi1:Stmt:=zf7 (top 11) 13
abbrev zr1:Stmt:=zf7 (top 11) 14
abbrev sRead:Stmt:=top 12
abbrev sCell:Stmt:=top 14
abbrev sMix:Stmt:=top 15
abbrev yf0:Stmt:=top 16
abbrev sTree:Stmt:=top 17
abbrev yh8:Stmt:=top 18
abbrev yi2:Stmt:=top 19
abbrev sLRun:Stmt:=top 20
abbrev yh7:Stmt:=top 21
abbrev sText:Stmt:=top 22
abbrev sLaw:Stmt:=top 23
end Pq
namespace Pq
open PySem L2
section
variable {P:Program}{w:World}{K:PySem.W.Frag}{mg:Str→Option Value}{base:Heap}{f g:Addr}{fd gd:FuncData}
theorem scCell:FnScope ["_law_script","_law_k"] ["_law_script","_law_k"] (zb2 sCell):=⟨rfl,rfl,rfl,by decide +kernel,rfl,by decide +kernel,by decide +kernel⟩
theorem ok_cell(F:Fun K "_law_cell" "_law_cell" sCell f fd)(ml:mg "len"=none):FnOk P w K mg base CX0 1 f fd ["_law_script","_law_k"] (spCell K):=by
 refine F.okq scCell (fun vs H Q E h=>?_) (fun cdv A outer s H vs Q E hr h=>?_)
 ·obtain⟨a,ns,k,rfl,_⟩:=h
  rfl
 obtain⟨a,ns,k,rfl,hS,h63,q⟩:=h
 refine⟨_,za0 (ze9 (yb4 (pvq 0) (fun _=>rfl)) (za7 (zc0 (zd6 zi0 (pvq 0) (zb3 zf5 (pvq 1) (zd7 zm4 rfl ml PySem.boot_len (za4 (pvq 0) za1))) (fun _ _=>rfl)))) zc9)
  (za7 (zc0 za5)),?_⟩
 refine⟨_,rfl,_,.inl ⟨_,hS,rfl⟩,?_⟩
 cases ns with
 |nil=>exact zp5 (by simp) q
 |cons n r=>
  refine zk4 (by simp) ?_
  have hl:(((n::r).map V.int).length:Int)=((n::r).length:Int):=by rw[List.length_map]
  have hp:(0:Int)<(((n::r).map V.int).length:Int):=by rw[hl,List.length_cons];omega
  refine⟨_,rfl,_,rfl,_,rfl,a,_,rfl,.inl hS,_,_,rfl,rfl,hp,a,_,_,_,rfl,rfl,hS,at_ints (Int.emod_nonneg _ (by omega)) (by rw[←hl];exact Int.emod_lt_of_pos _ hp),?_⟩
  have e:cell (n::r) k=(n::r).getD (k % (((n::r).map V.int).length:Int)).toNat 0:=by rw[hl];rfl
  rw[←e]
  exact q
theorem scMix:FnScope ["_law_script","_law_k","_law_number"] ["_law_script","_law_k"] (zb2 sMix):=⟨rfl,rfl,rfl,by decide +kernel,rfl,by decide +kernel,by decide +kernel⟩
theorem ok_mix(F:Fun K "_law_mix" "_law_mix" sMix f fd)(G:FnOk P w K mg base CX0 1 g gd ["_law_script","_law_k"] (spCell K))(bG:Binds K gd ["_law_script","_law_k"] [])(kG:PySem.W.keepIn K (.ref g)=true)(mG:mg "_law_cell"=some (.ref g)):
  FnOk P w K mg base CX0 2 f fd ["_law_script","_law_k"] (spMix K):=by
 refine F.okq scMix (fun vs H Q E h=>?_) (fun cdv A outer s H vs Q E hr h=>?_)
 ·obtain⟨a,ns,k,rfl,_⟩:=h
  rfl
 obtain⟨a,ns,k,rfl,hS,h63,q⟩:=h
 refine⟨_,za0 (zb1 (i:=2) scMix.nd rfl (Or.inl rfl) (zb3 zf5 (zb3 zg7 (zc2 G hr rfl mG kG bG .nil zd2 (za4 (pvq 0) (za4 (pvq 1) za1))) (zb3 zs9 za5 (zb3 zg7 (pvq 1) za5))) za5))
  (za0 (zb1 (i:=2) scMix.nd rfl (Or.inl rfl) (zb3 zf5 (zb3 zs9 (pvq 2) za5) za5))
  (za7 (zc0 (zb3 zf5 (zb3 zg7 (zb3 zs9 (zb3 zl2 (pvq 2) za5) za5) (pvq 2)) za5)))),?_⟩
 refine⟨_,rfl,_,rfl,a,ns,k,rfl,hS,h63,_,rfl,_,_,rfl,rfl,_,_,rfl,rfl,.inl ⟨by decide,by decide⟩,_,_,rfl,rfl,_,_,rfl,rfl,(by show(0:Int)<4294967291;decide),?_⟩
 refine⟨_,rfl,_,_,rfl,rfl,.inr ⟨by decide,by decide⟩,_,_,rfl,rfl,(by show(0:Int)<4294967279;decide),?_⟩
 refine⟨_,rfl,_,_,rfl,rfl,⟨by decide,by decide⟩,_,_,rfl,rfl,.inr ⟨by decide,by decide⟩,_,rfl,_,_,rfl,rfl,_,_,rfl,rfl,(by show(0:Int)<4294967231;decide),?_⟩
 exact q
end
end Pq
namespace Pq
inductive Tr where
 |name (s:List Nat)|num (n:Nat)
 |call (s:List Nat) (ts:List Tr)|row (ts:List Tr)
 |bin (op:Nat) (a b:Tr)
namespace Tr
mutual
def size:Tr→Nat
 |name _=>1|num _=>1
 |call _ ts=>sizes ts+1|row ts=>sizes ts+1
 |bin _ a b=>size a+size b+1
def sizes:List Tr→Nat
 |[]=>0
 |t::ts=>size t+sizes ts
end
mutual
def deep:Tr→Nat
 |name _=>0|num _=>0
 |call _ ts=>deeps ts+1|row ts=>deeps ts+1
 |bin _ a b=>max (deep a) (deep b)+1
def deeps:List Tr→Nat
 |[]=>0
 |t::ts=>max (deep t) (deeps ts)
end
end Tr
def names5:List (List Nat):=[[97],[98],[120,121,122],[102],[97,98,99,100,101,102,103,104,105,106,107,108,109]]
def calls3:List (List Nat):=[[102],[103,103],[112,114,105,110,116]]
def ops4:List Nat:=[43,45,42,42]
def zn0(m:Int):Tr:=
 if m / 8 % 2=0 then .name (names5.getD (m / 16 % 5).toNat []) else if m / 16 % 3=0 then .num 0 else if m / 16 % 3=1 then .num 7 else .num (m / 40 % 100000000000).toNat
def zd4 (ns : List Int) (most : Nat) : Nat → Int → Tr
  | 0, k => zn0 (mix ns k)
  | d + 1, k =>
    if mix ns k % 8 = 0 then zn0 (mix ns k)
    else if mix ns k % 8 < 4 then
      (if mix ns k % 8 < 3 then .call (calls3.getD (mix ns k / 64 % 3).toNat []) ((List.range (mix ns k / 8 % ((most : Int) + 1)).toNat).map fun j : Nat => zd4 ns most d (4 * k + 1 + (0 + (j : Int))))
       else .row ((List.range (mix ns k / 8 % ((most : Int) + 1)).toNat).map fun j : Nat => zd4 ns most d (4 * k + 1 + (0 + (j : Int)))))
    else .bin (ops4.getD (mix ns k % 8 - 4).toNat 0) (zd4 ns most d (4 * k + 1)) (zd4 ns most d (4 * k + 2))
theorem zv7(m:Int):(zn0 m).deep=0:=by
 unfold zn0
 repeat' split
 all_goals rfl
theorem yk8(D:Nat):∀ts:List Tr,(∀t∈ts,t.deep≤D)→Tr.deeps ts≤D
 |[],_=>Nat.zero_le _
 |t::ts,h=>by
  have h1:=h t List.mem_cons_self
  have h2:=yk8 D ts fun x hx=>h x (List.mem_cons_of_mem _ hx)
  show max t.deep (Tr.deeps ts)≤D
  omega
theorem zk6(ns:List Int)(most:Nat):∀(d:Nat) (k:Int),(zd4 ns most d k).deep≤d
 |0,k=>Nat.le_of_eq (zv7 _)
 |d+1,k=>by
  have all:∀t∈(List.range (mix ns k / 8 % ((most:Int)+1)).toNat).map (fun j:Nat=>zd4 ns most d (4*k+1+(0+(j:Int)))),t.deep≤d:=fun t ht=>by
   obtain⟨j,_,rfl⟩:=List.mem_map.mp ht
   exact zk6 ns most d _
  have h1:=yk8 d _ all
  have h2:=zk6 ns most d (4*k+1)
  have h3:=zk6 ns most d (4*k+2)
  unfold zd4
  split
  ·rw[zv7];omega
  ·split
   ·split
    ·show Tr.deeps _+1≤_;omega
    ·show Tr.deeps _+1≤_;omega
   ·show max _ _+1≤_;omega
def zo6:Tr→Bool
 |.bin 43 _ _=>true|.bin 45 _ _=>true|_=>false
def isOp:Tr→Bool
 |.bin _ _ _=>true|_=>false
def ya0(n:Nat):List Nat:=(Nat.toDigits 10 n).map Char.toNat
mutual
def za9:Tr→List (List Nat)
 |.name s=>[s]
 |.num n=>[ya0 n]
 |.call s ts=>[s,[40]]++zb5 ts++[[41]]
 |.row ts=>[[91]]++zb5 ts++[[93]]
 |.bin op a b=>
  if op=42 then(if zo6 a then[[40]]++za9 a++[[41]] else za9 a)++[[op]]++(if isOp b then[[40]]++za9 b++[[41]] else za9 b)
  else za9 a++[[op]]++(if zo6 b then[[40]]++za9 b++[[41]] else za9 b)
def zb5:List Tr→List (List Nat)
 |[]=>[]
 |[t]=>za9 t
 |t::u::ts=>za9 t++[[44]]++zb5 (u::ts)
end
end Pq
namespace Pq
open PySem L2
mutual
def TreeAt(H:Hp):Tr→Addr→Prop
 |.name s,r=>H r=some (.tup [.str "name",.str (tx s)])
 |.num n,r=>H r=some (.tup [.str "number",.int (n:Nat)])
 |.call s ts,r=>∃l as,H r=some (.tup [.str "call",.str (tx s),.ref l])∧H l=some (.tup (as.map V.ref))∧TreesAt H ts as
 |.row ts,r=>∃l as,H r=some (.tup [.str "row",.ref l])∧H l=some (.tup (as.map V.ref))∧TreesAt H ts as
 |.bin op a b,r=>∃x y,H r=some (.tup [.str (tx [op]),.ref x,.ref y])∧TreeAt H a x∧TreeAt H b y
def TreesAt(H:Hp):List Tr→List Addr→Prop
 |[],as=>as=[]
 |t::ts,as=>∃a rest,as=a::rest∧TreeAt H t a∧TreesAt H ts rest
end
mutual
theorem TreeAt.mono{H H':Hp}(h:Tups H H'):∀ {t:Tr} {r:Addr},TreeAt H t r→TreeAt H' t r
 |.name _,_,e=>h _ _ e
 |.num _,_,e=>h _ _ e
 |.call _ _,_,⟨l,as,e,e2,q⟩=>⟨l,as,h _ _ e,h _ _ e2,TreesAt.mono h q⟩
 |.row _,_,⟨l,as,e,e2,q⟩=>⟨l,as,h _ _ e,h _ _ e2,TreesAt.mono h q⟩
 |.bin _ _ _,_,⟨x,y,e,q,q'⟩=>⟨x,y,h _ _ e,TreeAt.mono h q,TreeAt.mono h q'⟩
theorem TreesAt.mono{H H':Hp}(h:Tups H H'):∀ {ts:List Tr} {as:List Addr},TreesAt H ts as→TreesAt H' ts as
 |[],_,e=>e
 |_::_,_,⟨a,rest,e,q,q'⟩=>⟨a,rest,e,TreeAt.mono h q,TreesAt.mono h q'⟩
end
theorem TreesAt.len{H:Hp}:∀ {ts:List Tr} {as:List Addr},TreesAt H ts as→as.length=ts.length
 |[],_,e=>by rw[show _=[] from e];rfl
 |_::_,_,⟨a,rest,e,_,q'⟩=>by rw[e,List.length_cons,List.length_cons,TreesAt.len q']
theorem TreesAt.snoc{H:Hp}{t:Tr}{a:Addr}:∀ {ts:List Tr} {as:List Addr},TreesAt H ts as→TreeAt H t a→TreesAt H (ts++[t]) (as++[a])
 |[],as,e,q=>by
  have e':as=[]:=e
  subst e'
  exact⟨a,[],rfl,q,rfl⟩
 |_::_,_,⟨b,rest,e,q1,q2⟩,q=>by
  subst e
  exact⟨b,rest++[a],rfl,q1,TreesAt.snoc q2 q⟩
theorem TreesAt.get{H:Hp}:∀ {ts:List Tr} {as:List Addr} {i:Nat} {t:Tr},TreesAt H ts as→ts[i]? = some t→∃a,as[i]? = some a∧TreeAt H t a
 |[],_,_,_,_,e=>by simp at e
 |_::_,_,0,_,⟨b,rest,e,q1,_⟩,et=>by
  subst e
  have et':=Option.some.inj (show some _=some _ from et)
  subst et'
  exact⟨b,rfl,q1⟩
 |_::ts,_,i+1,t,⟨b,rest,e,_,q2⟩,et=>by
  subst e
  exact TreesAt.get (ts:=ts) (as:=rest) (i:=i) (t:=t) q2 (by simpa using et)
abbrev zl7:List Str:=["_law_script","_law_k","_law_deep","_law_most"]
def zu6(K:PySem.W.Frag)(most:Nat):Nat→Sp
 |0=>fun _ _ _ _=>False
 |d+1=>fun vs H Q _=>∃(a:Addr) (ns:List Int) (k:Int),vs=[.ref a,.int k,.int d,.int (most:Nat)]∧SqL K H a (ns.map V.int)∧ns.length≤63∧∀(r:Addr) (H':Hp),Same H H'→TreeAt H' (zd4 ns most d k) r→Q (.ref r) H'
theorem tx_names:([Str.ofString "a",Str.ofString "b",Str.ofString "xyz",Str.ofString "f",Str.ofString "abcdefghijklm"]:List Str)=names5.map tx:=by decide +kernel
theorem tx_calls:([Str.ofString "f",Str.ofString "gg",Str.ofString "print"]:List Str)=calls3.map tx:=by decide +kernel
theorem tx_ops:([Str.ofString "+",Str.ofString "-",Str.ofString "*",Str.ofString "*"]:List Str)=ops4.map (fun c=>tx [c]):=by decide +kernel
theorem yl1{xs:List Str}{ts:List (List Nat)}(e:xs=ts.map tx){i:Int}(h0:0≤i)(h1:i<(ts.length:Int)):atI (xs.map V.str) i=some (.str (tx (ts.getD i.toNat []))):=by
 subst e
 have hk:i.toNat<ts.length:=by omega
 refine zu1 h0 ?_
 rw[List.getElem?_map,List.getElem?_map,List.getElem?_eq_getElem hk,List.getD_eq_getElem?_getD,List.getElem?_eq_getElem hk]
 rfl
theorem at_ops{i:Int}(h0:0≤i)(h1:i<4):atI ([V.str "+",V.str "-",V.str "*",V.str "*"]) i=some (.str (tx [ops4.getD i.toNat 0])):=by
 have e:([V.str "+",V.str "-",V.str "*",V.str "*"]:List V)=(ops4.map fun c=>tx [c]).map V.str:=by rw[←tx_ops];rfl
 have hk:i.toNat<ops4.length:=by show i.toNat<4;omega
 rw[e]
 refine zu1 h0 ?_
 rw[List.getElem?_map,List.getElem?_map,List.getElem?_eq_getElem hk,List.getD_eq_getElem?_getD,List.getElem?_eq_getElem hk]
 rfl
end Pq
namespace Pq
def inL(zs:List Nat):Nat→Bool:=fun c=>zs.contains c
def zc6(f:Nat→Bool)(s:List Nat)(i:Nat):Nat:=i+((s.drop i).takeWhile f).length
def atP(f:Nat→Bool)(s:List Nat)(i:Nat):Bool:=match s[i]? with
 |some c=>f c
 |none=>false
abbrev blanksL:List Nat:=[32,10]
abbrev zb0:List Nat:=[97,98,99,100,101,102,103,104,105,106,107,108,109,110,111,112,113,114,115,116,117,118,119,120,121,122]
abbrev figuresL:List Nat:=[48,49,50,51,52,53,54,55,56,57]
def zb4(s:List Nat)(i:Nat):Nat:=zc6 (inL blanksL) s i
def cutS(s:List Nat)(i j:Nat):List Nat:=(s.drop i).take (j - i)
def zh7(ds:List Nat):Nat:=ds.foldl (fun n c=>10*n+(c - 48)) 0
theorem zd8{f:Nat→Bool}{s:List Nat}{i:Nat}(h:atP f s i=true):i<s.length:=by
 unfold atP at h
 cases q:s[i]? with
 |none=>rw[q] at h;cases h
 |some c=>exact(List.getElem?_eq_some_iff.mp q).1
theorem zg2{f:Nat→Bool}{s:List Nat}{i:Nat}(h:atP f s i=true):∃c,s[i]? = some c∧f c=true:=by
 unfold atP at h
 cases q:s[i]? with
 |none=>rw[q] at h;cases h
 |some c=>rw[q] at h;exact⟨c,rfl,h⟩
theorem zc4{f:Nat→Bool}{s:List Nat}{i c:Nat}(h:s[i]? = some c):atP f s i=f c:=by unfold atP;rw[h]
theorem zn8{f:Nat→Bool}{s:List Nat}{i:Nat}(h:s.length≤i):atP f s i=false:=by
 unfold atP;rw[List.getElem?_eq_none h]
theorem zi2{f:Nat→Bool}{s:List Nat}{i:Nat}(h:atP f s i=false):zc6 f s i=i:=by
 unfold zc6
 cases q:s.drop i with
 |nil=>rfl
 |cons c r=>
  have e:s[i]? = some c:=by
   have:(s.drop i)[0]? = some c:=by rw[q];rfl
   rw[List.getElem?_drop] at this
   simpa using this
  rw[zc4 e] at h
  rw[List.takeWhile_cons,h];rfl
theorem zu9{f:Nat→Bool}{s:List Nat}{i:Nat}(h:atP f s i=true):zc6 f s (i+1)=zc6 f s i:=by
 obtain⟨c,e,hc⟩:=zg2 h
 obtain⟨hi,e'⟩:=List.getElem?_eq_some_iff.mp e
 unfold zc6
 rw[List.drop_eq_getElem_cons hi,e',List.takeWhile_cons,hc]
 simp;omega
theorem zu8{f:Nat→Bool}{s:List Nat}{i:Nat}(h:i≤s.length):zc6 f s i≤s.length:=by
 unfold zc6
 have:=(List.takeWhile_sublist f (l:=s.drop i)).length_le
 rw[List.length_drop] at this
 omega
theorem yi3{f:Nat→Bool}{s:List Nat}{i:Nat}:i≤zc6 f s i:=by unfold zc6;omega
theorem run_at(f:Nat→Bool)(s:List Nat):∀(n i:Nat),s.length - i=n→atP f s (zc6 f s i)=false
 |0,i,h=>by rw[zi2 (zn8 (by omega))];exact zn8 (by omega)
 |n+1,i,h=>by
  cases q:atP f s i with
  |false=>rw[zi2 q];exact q
  |true=>rw[←zu9 q];exact run_at f s n (i+1) (by omega)
theorem zc8(s:List Nat)(i:Nat):zb4 s (zb4 s i)=zb4 s i:=zi2 (run_at _ s _ i rfl)
theorem yb1{f:Nat→Bool}{s:List Nat}{i:Nat}(h:atP f s i=true)(hf:∀c,f c=true→inL blanksL c=false):zb4 s i=i:=by
 obtain⟨c,e,hc⟩:=zg2 h
 exact zi2 (by rw[zc4 e];exact hf c hc)
theorem zk7{s:List Nat}{i:Nat}(h:i≤s.length):zb4 s i≤s.length:=zu8 h
theorem zf2{s:List Nat}{i:Nat}:i≤zb4 s i:=yi3
inductive Job where
 |sum|sumL (t:Tr)|prod|prodL (t:Tr)|opnd|parts (c:Nat)|partsL (c:Nat) (ts:List Tr)
inductive Res where
 |tree (t:Tr) (j:Nat)|trees (ts:List Tr) (j:Nat)|bad (p:Nat)
def zd0(r:Option Res)(k:Tr→Nat→Option Res):Option Res:=match r with
 |some (.tree t j)=>k t j
 |some (.bad p)=>some (.bad p)
 |_=>none
def zi8(r:Option Res)(k:List Tr→Nat→Option Res):Option Res:=match r with
 |some (.trees ts j)=>k ts j
 |some (.bad p)=>some (.bad p)
 |_=>none
theorem zb9{r:Option Res}{k:Tr→Nat→Option Res}{x:Res}(h:zd0 r k=some x):(∃t j,r=some (.tree t j)∧k t j=some x)∨(∃p,r=some (.bad p)∧x=.bad p):=by
 unfold zd0 at h
 split at h
 ·exact .inl ⟨_,_,rfl,h⟩
 ·exact .inr ⟨_,rfl,(Option.some.inj h).symm⟩
 ·cases h
theorem zg3{r:Option Res}{k:List Tr→Nat→Option Res}{x:Res}(h:zi8 r k=some x):(∃t j,r=some (.trees t j)∧k t j=some x)∨(∃p,r=some (.bad p)∧x=.bad p):=by
 unfold zi8 at h
 split at h
 ·exact .inl ⟨_,_,rfl,h⟩
 ·exact .inr ⟨_,rfl,(Option.some.inj h).symm⟩
 ·cases h
def numV(s:List Nat)(k:Nat):Nat:=if atP (inL [48]) s k=true then 0 else zh7 (cutS s k (zc6 (inL figuresL) s k))
def yf9(s:List Nat)(k:Nat):Nat:=if atP (inL [48]) s k=true then k+1 else zc6 (inL figuresL) s k
def zm0(G:Job→Nat→Nat→Option Res)(s:List Nat)(d k:Nat):Option Res:=
 if atP (inL [40]) s (zb4 s (zc6 (inL zb0) s k))=true then zi8 (G (.parts 41) d (zb4 s (zc6 (inL zb0) s k))) fun ts j=>some (.tree (.call (cutS s k (zc6 (inL zb0) s k)) ts) j)
 else some (.tree (.name (cutS s k (zc6 (inL zb0) s k))) (zb4 s (zc6 (inL zb0) s k)))
def zi7(G:Job→Nat→Nat→Option Res)(s:List Nat)(d k:Nat):Option Res:=
 if atP (inL zb0) s k=true then zm0 G s d k
 else if atP (inL figuresL) s k=true then some (.tree (.num (numV s k)) (yf9 s k))
 else if atP (inL [91]) s k=true then zi8 (G (.parts 93) d k) fun ts j=>some (.tree (.row ts) j)
 else if atP (inL [40]) s k=true then(if d=20 then some (.bad k) else zd0 (G .sum (d+1) (k+1)) fun t j=>if atP (inL [41]) s (zb4 s j)=true then some (.tree t (zb4 s j+1)) else some (.bad (zb4 s j)))
 else some (.bad k)
def go(s:List Nat):Nat→Job→Nat→Nat→Option Res
 |0,_,_,_=>none
 |n+1,.sum,d,i=>zd0 (go s n .prod d i) fun t j=>go s n (.sumL t) d j
 |n+1,.sumL t,d,i=>
  if atP (inL [43,45]) s (zb4 s i)=true then zd0 (go s n .prod d (zb4 s i+1)) fun u j=>go s n (.sumL (.bin (s.getD (zb4 s i) 0) t u)) d j
  else some (.tree t (zb4 s i))
 |n+1,.prod,d,i=>zd0 (go s n .opnd d i) fun t j=>go s n (.prodL t) d j
 |n+1,.prodL t,d,i=>
  if atP (inL [42]) s (zb4 s i)=true then zd0 (go s n .opnd d (zb4 s i+1)) fun u j=>go s n (.prodL (.bin (s.getD (zb4 s i) 0) t u)) d j
  else some (.tree t (zb4 s i))
 |n+1,.opnd,d,i=>zi7 (go s n) s d (zb4 s i)
 |n+1,.parts c,d,i=>
  if d=20 then some (.bad i)
  else if atP (inL [c]) s (zb4 s (i+1))=true then some (.trees [] (zb4 s (i+1)+1))
  else zd0 (go s n .sum (d+1) (zb4 s (i+1))) fun t j=>go s n (.partsL c [t]) d j
 |n+1,.partsL c ts,d,i=>
  if atP (inL [44]) s (zb4 s i)=true then zd0 (go s n .sum (d+1) (zb4 s i+1)) fun t j=>go s n (.partsL c (ts++[t])) d j
  else if atP (inL [c]) s (zb4 s i)=true then some (.trees ts (zb4 s i+1))
  else some (.bad (zb4 s i))
def zw7(s:List Nat)(n:Nat):Option Res:=zd0 (go s n .sum 0 0) fun t j=>if zb4 s j<s.length then some (.bad (zb4 s j)) else some (.tree t (zb4 s j))
def Res.Le(len i:Nat):Res→Prop
 |.tree _ j=>i≤j∧j≤len
 |.trees _ j=>i≤j∧j≤len
 |.bad _=>True
theorem Res.Le.mono{len i i':Nat}(h:i≤i'):∀ {r:Res},r.Le len i'→r.Le len i
 |.tree _ _,q=>⟨Nat.le_trans h q.1,q.2⟩
 |.trees _ _,q=>⟨Nat.le_trans h q.1,q.2⟩
 |.bad _,_=>trivial
theorem zj0{len i:Nat}{r:Option Res}{k:Tr→Nat→Option Res}{x:Res}(h:zd0 r k=some x)(h1:∀y,r=some y→y.Le len i)(h2:∀t j y,i≤j→j≤len→k t j=some y→y.Le len j):x.Le len i:=by
 rcases zb9 h with⟨t,j,e1,e2⟩|⟨p,e1,e2⟩
 ·have:=h1 _ e1
  exact(h2 t j x this.1 this.2 e2).mono this.1
 ·rw[e2];trivial
theorem zv5{len i:Nat}{r:Option Res}{k:List Tr→Nat→Option Res}{x:Res}(h:zi8 r k=some x)(h1:∀y,r=some y→y.Le len i)(h2:∀t j y,i≤j→j≤len→k t j=some y→y.Le len j):x.Le len i:=by
 rcases zg3 h with⟨t,j,e1,e2⟩|⟨p,e1,e2⟩
 ·have:=h1 _ e1
  exact(h2 t j x this.1 this.2 e2).mono this.1
 ·rw[e2];trivial
theorem Res.le_tree{len i j:Nat}{t:Tr}{y:Res}(h1:i≤j)(h2:j≤len)(e:some (Res.tree t j)=some y):y.Le len i:=by
 rw[←Option.some.inj e];exact⟨h1,h2⟩
theorem Res.le_trees{len i j:Nat}{t:List Tr}{y:Res}(h1:i≤j)(h2:j≤len)(e:some (Res.trees t j)=some y):y.Le len i:=by
 rw[←Option.some.inj e];exact⟨h1,h2⟩
theorem Res.le_bad{len i j:Nat}{y:Res}(e:some (Res.bad j)=some y):y.Le len i:=by
 rw[←Option.some.inj e];trivial
theorem yf8{s:List Nat}{k:Nat}(h:k<s.length):k≤yf9 s k∧yf9 s k≤s.length:=by
 unfold yf9
 split
 ·omega
 ·exact⟨yi3,zu8 (by omega)⟩
theorem zn1(s:List Nat):∀(n:Nat) (job:Job) (d i:Nat) (r:Res),i≤s.length→go s n job d i=some r→r.Le s.length i
 |0,_,_,_,_,_,h=>by cases h
 |n+1,.sum,d,i,r,hi,h=>zj0 h (fun y e=>zn1 s n _ d i y hi e) fun t j y _ h2 e=>zn1 s n _ d j y h2 e
 |n+1,.prod,d,i,r,hi,h=>zj0 h (fun y e=>zn1 s n _ d i y hi e) fun t j y _ h2 e=>zn1 s n _ d j y h2 e
 |n+1,.sumL t,d,i,r,hi,h=>by
  unfold go at h
  have g:=zf2 (s:=s) (i:=i)
  split at h
  ·rename_i c
   have:=zd8 c
   exact(zj0 h (fun y e=>zn1 s n _ d _ y (by omega) e) fun t j y _ h2 e=>zn1 s n _ d j y h2 e).mono (by omega)
  ·exact Res.le_tree g (zk7 hi) h
 |n+1,.prodL t,d,i,r,hi,h=>by
  unfold go at h
  have g:=zf2 (s:=s) (i:=i)
  split at h
  ·rename_i c
   have:=zd8 c
   exact(zj0 h (fun y e=>zn1 s n _ d _ y (by omega) e) fun t j y _ h2 e=>zn1 s n _ d j y h2 e).mono (by omega)
  ·exact Res.le_tree g (zk7 hi) h
 |n+1,.opnd,d,i,r,hi,h=>by
  unfold go zi7 at h
  have g:=zf2 (s:=s) (i:=i)
  have gl:=zk7 hi
  refine Res.Le.mono g ?_
  generalize zb4 s i=k at h gl
  split at h
  ·rename_i c
   unfold zm0 at h
   have e1:=yi3 (f:=inL zb0) (s:=s) (i:=k)
   have e2:=zu8 (f:=inL zb0) (s:=s) (i:=k) gl
   have e3:=zf2 (s:=s) (i:=zc6 (inL zb0) s k)
   have e4:=zk7 e2
   split at h
   ·exact(zv5 h (fun y e=>zn1 s n _ d _ y e4 e) fun t j y h1 h2 e=>Res.le_tree (Nat.le_refl _) h2 e).mono (by omega)
   ·exact Res.le_tree (by omega) e4 h
  ·split at h
   ·rename_i c
    have:=yf8 (zd8 c)
    exact Res.le_tree this.1 this.2 h
   ·split at h
    ·exact zv5 h (fun y e=>zn1 s n _ d _ y gl e) fun t j y h1 h2 e=>Res.le_tree (Nat.le_refl _) h2 e
    ·split at h
     ·rename_i c
      have:=zd8 c
      split at h
      ·exact Res.le_bad h
      ·refine(zj0 h (fun y e=>zn1 s n _ _ _ y (by omega) e) fun t j y h1 h2 e=>?_).mono (by omega)
       split at e
       ·rename_i c2
        have:=zd8 c2
        have:=zf2 (s:=s) (i:=j)
        exact Res.le_tree (by omega) (by omega) e
       ·exact Res.le_bad e
     ·exact Res.le_bad h
 |n+1,.parts c,d,i,r,hi,h=>by
  unfold go at h
  split at h
  ·exact Res.le_bad h
  ·by_cases h0:i+1≤s.length
   ·have g:=zf2 (s:=s) (i:=i+1)
    have gl:=zk7 h0
    split at h
    ·rename_i c2
     have:=zd8 c2
     exact Res.le_trees (by omega) (by omega) h
    ·exact(zj0 h (fun y e=>zn1 s n _ _ _ y gl e) fun t j y _ h2 e=>zn1 s n _ d j y h2 e).mono (by omega)
   ·
    have hb:∀m job y,(job=.sum∨job=.prod∨job=.opnd)→∀d' k,s.length≤k→go s m job d' k=some y→∃q,y=.bad q:=by
     intro m
     induction m with
     |zero=>intro job y _ d' k _ e;cases e
     |succ m ih=>
      intro job y hj d' k hk e
      rcases hj with rfl|rfl|rfl
      ·rcases zb9 e with⟨t,j,e1,e2⟩|⟨p,e1,e2⟩
       ·obtain⟨q,z⟩:=ih .prod _ (.inr (.inl rfl)) d' k hk e1
        cases z
       ·exact⟨p,e2⟩
      ·rcases zb9 e with⟨t,j,e1,e2⟩|⟨p,e1,e2⟩
       ·obtain⟨q,z⟩:=ih .opnd _ (.inr (.inr rfl)) d' k hk e1
        cases z
       ·exact⟨p,e2⟩
      ·unfold go zi7 at e
       have a:∀f:Nat→Bool,atP f s (zb4 s k)=false:=fun f=>zn8 (Nat.le_trans hk zf2)
       rw[a,a,a,a] at e
       exact⟨_,(Option.some.inj e).symm⟩
    have hk:s.length≤zb4 s (i+1):=Nat.le_trans (by omega) zf2
    rw[if_neg (by rw[zn8 hk];decide)] at h
    rcases zb9 h with⟨t,j,e1,e2⟩|⟨p,e1,e2⟩
    ·obtain⟨q,z⟩:=hb n .sum _ (.inl rfl) _ _ hk e1
     cases z
    ·rw[e2];trivial
 |n+1,.partsL c ts,d,i,r,hi,h=>by
  unfold go at h
  have g:=zf2 (s:=s) (i:=i)
  split at h
  ·rename_i c2
   have:=zd8 c2
   exact(zj0 h (fun y e=>zn1 s n _ _ _ y (by omega) e) fun t j y _ h2 e=>zn1 s n _ d j y h2 e).mono (by omega)
  ·split at h
   ·rename_i c2
    have:=zd8 c2
    exact Res.le_trees (by omega) (by omega) h
   ·exact Res.le_bad h
theorem zz8{s:List Nat}{n:Nat}{job:Job}{d i:Nat}{r:Res}(hi:i≤s.length)(h:go s n job d i=some r):(∀t j,r=.tree t j→i≤j∧j≤s.length)∧(∀ts j,r=.trees ts j→i≤j∧j≤s.length):=by
 have q:=zn1 s n job d i r hi h
 exact⟨fun t j e=>by rw[e] at q;exact q,fun t j e=>by rw[e] at q;exact q⟩
end Pq
namespace Pq
open PySem L2
theorem tp:¬(("text":Str)="place"):=by decide +kernel
theorem td:¬(("text":Str)="depth"):=by decide +kernel
theorem pd:¬(("place":Str)="depth"):=by decide +kernel
def rf(s:List Nat)(i d:Int):List (Str×V):=[("text",V.str (tx s)),("place",V.int i),("depth",V.int d)]
theorem zp2(s:List Nat)(i d:Int):(rf s i d).lookup ("text":Str)=some (.str (tx s)):=by simp[rf,List.lookup]
theorem zf3(s:List Nat)(i d:Int):(rf s i d).lookup ("place":Str)=some (.int i):=by
 have h:(("place":Str)=="text")=false:=by decide +kernel
 simp[rf,List.lookup,h]
theorem zy3(s:List Nat)(i d:Int):(rf s i d).lookup ("depth":Str)=some (.int d):=by
 have h:(("depth":Str)=="text")=false:=by decide +kernel
 have h2:(("depth":Str)=="place")=false:=by decide +kernel
 simp[rf,List.lookup,h,h2]
theorem zd9(s:List Nat)(i d:Int){m:Str}(h1:(m==("text":Str))=false)(h2:(m==("place":Str))=false)(h3:(m==("depth":Str))=false):(rf s i d).lookup m=none:=by
 simp[rf,List.lookup,h1,h2,h3]
theorem rf_init(s:List Nat):zq6 "depth" (.int 0) (zq6 "place" (.int 0) (zq6 "text" (.str (tx s)) []))=rf s 0 0:=by
 show zq6 "depth" (.int 0) (zq6 "place" (.int 0) [(("text":Str),V.str (tx s))])=_
 have e1:zq6 "place" (.int 0) [(("text":Str),V.str (tx s))]=([("text",V.str (tx s)),("place",V.int 0)]:List (Str×V)):=by
  show(if("text":Str)="place" then _ else _)=_
  rw[if_neg tp]<;>rfl
 rw[e1]
 show(if("text":Str)="depth" then _ else(("text":Str),V.str (tx s))::(if("place":Str)="depth" then _ else(("place":Str),V.int 0)::zq6 "depth" (.int 0) []))=_
 rw[if_neg td,if_neg pd]<;>rfl
theorem rf_put(s:List Nat)(i d j:Int):zq6 "place" (.int j) (rf s i d)=rf s j d:=by
 show(if("text":Str)="place" then _ else(("text":Str),V.str (tx s))::(if("place":Str)="place" then(("place":Str),V.int j)::[(("depth":Str),V.int d)] else _))=_
 rw[if_neg tp,if_pos rfl]<;>rfl
theorem rf_dep(s:List Nat)(i d j:Int):zq6 "depth" (.int j) (rf s i d)=rf s i j:=by
 show(if("text":Str)="depth" then _ else(("text":Str),V.str (tx s))::(if("place":Str)="depth" then _ else(("place":Str),V.int i)::(if("depth":Str)="depth" then[(("depth":Str),V.int j)] else _)))=_
 rw[if_neg td,if_neg pd,if_pos rfl]<;>rfl
def RdAt(C:Addr)(H:Hp)(p:Addr)(s:List Nat)(i d:Nat):Prop:=∃dx,H p=some (.ins C dx (rf s (i:Int) (d:Int)))
def But1(p:Addr)(H H':Hp):Prop:=∀b o,H b=some o→b≠p→H' b=some o
theorem But1.refl{p:Addr}{H:Hp}:But1 p H H:=fun _ _ h _=>h
theorem But1.trans{p:Addr}{H H1 H2:Hp}(a:But1 p H H1)(b:But1 p H1 H2):But1 p H H2:=fun c o e n=>b c o (a c o e n) n
theorem But1.of{p:Addr}{H H':Hp}(s:Same H H'):But1 p H H':=fun b o e _=>s b o e
theorem But1.up{p:Addr}{H:Hp}{o:HO}:But1 p H (upd H p o):=fun b u e n=>by rw[zb8 n];exact e
theorem RdAt.ne{C:Addr}{H:Hp}{p:Addr}{s:List Nat}{i d:Nat}(R:RdAt C H p s i d){b:Addr}{o:HO}(e:H b=some o)(h:∀dx fs,o≠.ins C dx fs):b≠p:=fun z=>by
 obtain⟨dx,q⟩:=R
 subst z
 rw[q] at e
 exact h _ _ (Option.some.inj e).symm
theorem RdAt.tups{C:Addr}{H H':Hp}{p:Addr}{s:List Nat}{i d:Nat}(R:RdAt C H p s i d)(b:But1 p H H'):Tups H H':=fun c xs e=>b c _ e (R.ne e (fun _ _ z=>by cases z))
theorem RdAt.lst{C:Addr}{H H':Hp}{p:Addr}{s:List Nat}{i d:Nat}(R:RdAt C H p s i d)(b:But1 p H H'){c:Addr}{xs:List V}(e:H c=some (.lst xs)):H' c=some (.lst xs):=b c _ e (R.ne e (fun _ _ z=>by cases z))
theorem RdAt.same{C:Addr}{H H':Hp}{p:Addr}{s:List Nat}{i d:Nat}(R:RdAt C H p s i d)(b:Same H H'):RdAt C H' p s i d:=by
 obtain⟨dx,q⟩:=R
 exact⟨dx,b _ _ q⟩
def SgAt(K:PySem.W.Frag)(v:V)(zs:List Nat):Prop:=v=.str (tx zs)∨∃a,v=.ref a∧∀H,SqT K H a (zs.map fun c=>V.str (tx [c]))
theorem zt7(c:Nat):∀zs:List Nat,inV (.str (tx [c])) (zs.map fun c=>V.str (tx [c]))=inL zs c
 |[]=>rfl
 |z::zs=>by
  show((tx [z]==tx [c])||inV (.str (tx [c])) (zs.map fun c=>V.str (tx [c])))=(z::zs).contains c
  rw[zt7 c zs,List.contains_cons]
  have:(tx [z]==tx [c])=(c==z):=by
   by_cases h:c=z
   ·subst h;simp
   ·have h2:¬tx [z]=tx [c]:=fun q=>h (by have:=yh3 q;simp at this;exact this.symm)
    rw[beq_eq_false_iff_ne.mpr h2,beq_eq_false_iff_ne.mpr h]
  rw[this];rfl
theorem zp6:∀zs:List Nat,(zs.map fun c=>V.str (tx [c])).all zu2=true
 |[]=>rfl
 |z::zs=>by
  show(true&&_)=true
  rw[zp6 zs];rfl
structure Rdr(K:PySem.W.Frag)(mg:Str→Option Value)(C:Addr):Prop where
 cl:Cls K C
 nT:NoAttr K C "text"
 nP:NoAttr K C "place"
 nD:NoAttr K C "depth"
 len:mg "len"=none
 tup:mg "tuple"=none
 blanks:∃u,mg "PASSED"=some u∧RelV (.str (tx blanksL)) u
 letters:∃u,mg "LETTERS"=some u∧RelV (.str (tx zb0)) u
 figures:∃u,mg "FIGURES"=some u∧RelV (.str (tx figuresL)) u
 sums:∃u v,mg "SUM_SIGNS"=some u∧RelV v u∧SgAt K v [43,45]
 prods:∃u v,mg "PRODUCT_SIGNS"=some u∧RelV v u∧SgAt K v [42]
 most:∃u,mg "MOST_WITHIN"=some u∧RelV (.int 20) u
structure RKit(P:Program)(w:World)(K:PySem.W.Frag)(mg:Str→Option Value)(base:Heap)(C:Addr)(CX:CXT)(Eb:XK→Nat→Hp→Prop):Prop where
 pass:∀ {N:List Str} {qual:Str} {scope:Scope} {f:Addr} {cd:Value} {A:Around} {outer:List Env} {s:Shared} {H:Hp} {E:XK},Passes CX (yd5 CX P w K mg base N qual scope f cd A outer s H E) E
 raise:∀ {N:List Str} {qual:Str} {scope:Scope} {f:Addr} {cd:Value} {A:Around} {outer:List Env} {s:Shared} {H:Hp} {E:XK} {np p1 p2 cpos pos:Pos},N[0]? = some ("self":Str)→Vis scope "self"→Gl (yd5 CX P w K mg base N qual scope f cd A outer s H E) "BadText"→
  Room 4 (yd5 CX P w K mg base N qual scope f cd A outer s H E).A→
  QS (yd5 CX P w K mg base N qual scope f cd A outer s H E) (.Raise (some (.Call (.Name "BadText" np) [.Attribute (.Name "self" p1) "place" p2] [] cpos)) none pos)
   (fun _ σ H1=>∃(p:Addr) (dx:Addr) (fs:List (Str×V)) (i:Nat),σ[0]? = some (some (.ref p))∧H1 p=some (.ins C dx fs)∧fs.lookup ("place":Str)=some (V.int (i:Int))∧Eb E i H1)
def rdInit(C:Addr):Sp:=fun vs H Q _=>∃(p dx:Addr) (s:List Nat),vs=[.ref p,.str (tx s)]∧H p=some (.ins C dx [])∧∀H',RdAt C H' p s 0 0→But1 p H H'→Q .non H'
def rdAt(K:PySem.W.Frag)(C:Addr):Sp:=fun vs H Q _=>∃(p:Addr) (v:V) (zs s:List Nat) (i d:Nat),vs=[.ref p,v]∧SgAt K v zs∧RdAt C H p s i d∧s.length≤1000000∧Q (.bl (atP (inL zs) s i)) H
def yb3(C:Addr):Sp:=fun vs H Q _=>∃(p:Addr) (s:List Nat) (i d:Nat),vs=[.ref p]∧RdAt C H p s i d∧s.length≤1000000∧∀H',RdAt C H' p s (zb4 s i) d→But1 p H H'→Q .non H'
def zo0(K:PySem.W.Frag)(C:Addr):Sp:=fun vs H Q _=>∃(p:Addr) (v:V) (zs s:List Nat) (i d:Nat),vs=[.ref p,v]∧SgAt K v zs∧RdAt C H p s i d∧s.length≤1000000∧∀H',RdAt C H' p s (zb4 s i) d→But1 p H H'→Q (.bl (atP (inL zs) s (zb4 s i))) H'
def rdRun(K:PySem.W.Frag)(C:Addr):Sp:=fun vs H Q _=>∃(p:Addr) (v:V) (zs s:List Nat) (i d:Nat),vs=[.ref p,v]∧SgAt K v zs∧RdAt C H p s i d∧s.length≤1000000∧i≤s.length∧∀H',RdAt C H' p s (zc6 (inL zs) s i) d→But1 p H H'→Q (.str (tx (cutS s i (zc6 (inL zs) s i)))) H'
def zq5(K:PySem.W.Frag)(C:Addr)(Eb:XK→Nat→Hp→Prop):Sp:=fun vs H Q E=>∃(p:Addr) (v:V) (zs s:List Nat) (i d:Nat),vs=[.ref p,v]∧SgAt K v zs∧RdAt C H p s i d∧s.length≤1000000∧
 (atP (inL zs) s (zb4 s i)=true→∀H',RdAt C H' p s (zb4 s i+1) d→But1 p H H'→Q .non H')∧(atP (inL zs) s (zb4 s i)=false→∀H',But1 p H H'→Eb E (zb4 s i) H')
def zy5(K:PySem.W.Frag)(C:Addr)(Eb:XK→Nat→Hp→Prop):Sp:=fun vs H Q E=>∃(p:Addr) (v:V) (zs s:List Nat) (i d:Nat),vs=[.ref p,v]∧SgAt K v zs∧RdAt C H p s i d∧s.length≤1000000∧
 (atP (inL zs) s (zb4 s i)=true→d≠20→∀H',RdAt C H' p s (zb4 s i+1) (d+1)→But1 p H H'→Q .non H')∧((atP (inL zs) s (zb4 s i)=false∨d=20)→∀H',But1 p H H'→Eb E (zb4 s i) H')
def zs7(K:PySem.W.Frag)(C:Addr)(Eb:XK→Nat→Hp→Prop):Sp:=fun vs H Q E=>∃(p:Addr) (v:V) (zs s:List Nat) (i d:Nat),vs=[.ref p,v]∧SgAt K v zs∧RdAt C H p s i (d+1)∧s.length≤1000000∧
 (atP (inL zs) s (zb4 s i)=true→∀H',RdAt C H' p s (zb4 s i+1) d→But1 p H H'→Q .non H')∧(atP (inL zs) s (zb4 s i)=false→∀H',But1 p H H'→Eb E (zb4 s i) H')
abbrev ps1:List Str:=["self"]
abbrev ps2:List Str:=["self","signs"]
abbrev zq8:List Str:=["self","sign"]
section
variable {P:Program}{w:World}{K:PySem.W.Frag}{mg:Str→Option Value}{base:Heap}{f:Addr}{fd:FuncData}{C:Addr}{CX:CXT}{Eb:XK→Nat→Hp→Prop}
theorem scRdI:FnScope ["self","text"] ["self","text"] (zb2 zy0):=⟨rfl,rfl,rfl,by decide +kernel,rfl,by decide +kernel,by decide +kernel⟩
theorem ok_rdInit(F:Fun K "__init__" "Reader.__init__" zy0 f fd)(T:Rdr K mg C):FnOk P w K mg base CX0 1 f fd ["self","text"] (rdInit C):=by
 refine F.okq scRdI (fun vs H Q E h=>?_) (fun cdv A outer s H vs Q E hr h=>?_)
 ·obtain⟨p,dx,s,rfl,_⟩:=h
  rfl
 obtain⟨p,dx,s,rfl,hp,k⟩:=h
 refine⟨_,za0 (yf5 (pvq 0) (pvq 1) rfl) (za0 (yf5 (pvq 0) za5 rfl) (za7 (yf5 (pvq 0) za5 rfl))),?_⟩
 refine⟨_,rfl,_,rfl,p,C,dx,[],rfl,hp,T.cl,T.nT,(by show 0<1000;decide),_,rfl,p,C,dx,_,rfl,za2,T.cl,T.nP,(by show 1<1000;decide),_,rfl,p,C,dx,_,rfl,za2,T.cl,T.nD,?_,?_⟩
 ·show(if("text":Str)="place" then[(("text":Str),V.int 0)] else(("text":Str),V.str (tx s))::[(("place":Str),V.int 0)]).length<1000
  rw[if_neg tp];show 2<1000;decide
 ·rw[rf_init]
  exact k _ ⟨dx,za2⟩ (But1.trans But1.up (But1.trans But1.up But1.up))
theorem scRdA:FnScope ps2 ps2 (zb2 sRdAt):=⟨rfl,rfl,rfl,by decide +kernel,rfl,by decide +kernel,by decide +kernel⟩
theorem ok_rdAt(F:Fun K "is_at" "Reader.is_at" sRdAt f fd)(T:Rdr K mg C):FnOk P w K mg base CX0 1 f fd ps2 (rdAt K C):=by
 refine F.okq scRdA (fun vs H Q E h=>?_) (fun cdv A outer s0 H vs Q E hr h=>?_)
 ·obtain⟨p,v,zs,s,i,d,rfl,_⟩:=h
  rfl
 obtain⟨p,v,zs,s,i,d,rfl,hv,⟨dx,hp⟩,hz,q⟩:=h
 refine⟨_,za7 (zc0 (zi6 (zf0 yc2 (zf9 (pvq 0) rfl) (zd7 zg4 rfl T.len PySem.boot_len (zr6 (zf9 (pvq 0) rfl) za1)) (ze1 _)) (zh8 (zf0 (op_in_str.or zo1) (zd6 zt5 (zf9 (pvq 0) rfl) (zf9 (pvq 0) rfl) (fun _ _=>rfl)) (pvq 1) rfl)))),?_⟩
 refine⟨_,rfl,p,C,dx,_,_,rfl,hp,T.cl,T.nP,zf3 _ _ _,_,rfl,p,C,dx,_,_,rfl,hp,T.cl,T.nT,zp2 _ _ _,_,rfl,zb7 (by rw[ze4];omega),_,_,rfl,rfl,_,rfl,?_⟩
 rw[ze4]
 by_cases hi:i<s.length
 ·have e:s[i]? = some s[i]:=List.getElem?_eq_getElem hi
  refine zk4 (decide_eq_true (by omega)) ?_
  refine⟨_,rfl,p,C,dx,_,_,rfl,hp,T.cl,T.nT,zp2 _ _ _,_,rfl,p,C,dx,_,_,rfl,hp,T.cl,T.nP,zf3 _ _ _,tx s,_,s[i],rfl,rfl,zb7 (by rw[ze4];omega),(by show atI (tx s).cps.toList ((i:Nat):Int)=_;exact zh2 (by simpa [tx] using e)),_,rfl,?_⟩
  rw[zc4 e] at q
  rcases hv with rfl|⟨a,rfl,ha⟩
  ·refine .inl ⟨tx [s[i]],tx zs,rfl,rfl,?_⟩
   rw[yc8]
   exact q
  ·refine .inr ⟨a,_,rfl,.inr (ha H),rfl,zp6 zs,?_⟩
   show Q (.bl (inV (.str (tx [s[i]])) _)) H
   rw[zt7]
   exact q
 ·refine zp5 (fun z=>hi (by have:=of_decide_eq_true z;omega)) ?_
  rw[zn8 (by omega)] at q
  exact q
theorem scRdP:FnScope ps1 ps1 (zb2 zx6):=⟨rfl,rfl,rfl,by decide +kernel,rfl,by decide +kernel,by decide +kernel⟩
theorem yc3{fA:Addr}{aD:FuncData}(F:Fun K "pass_blanks" "Reader.pass_blanks" zx6 f fd)(T:Rdr K mg C)(A:MO P w K mg base C CX0 1 fA aD "is_at" ps2 (rdAt K C)):FnOk P w K mg base CX0 2 f fd ps1 (yb3 C):=by
 refine F.okq scRdP (fun vs H Q E h=>?_) (fun cdv A0 outer s0 H vs Q E hr h=>?_)
 ·obtain⟨p,s,i,d,rfl,_⟩:=h
  rfl
 obtain⟨p,s,i,d,rfl,R,hz,q⟩:=h
 obtain⟨u,hu,ru⟩:=T.blanks
 refine⟨_,za7 (zi4 PassesOwn.never (zd1 (zc1 (pvq 0) T.cl A.m A.ok hr A.b .nil zd2 (za4 (zg6 rfl hu ru) za1))) (za7 (zk2 (pvq 0) za5 yk2))),?_⟩
 refine⟨fun m σ H'=>∃j,σ=[some (.ref p)]∧RdAt C H' p s j d∧But1 p H H'∧zb4 s j=zb4 s i∧m=s.length - j,⟨_,i,rfl,R,But1.refl,rfl,rfl⟩,?_⟩
 rintro m σ H' ⟨j,rfl,R',b',e,rfl⟩
 obtain⟨dx,hp⟩:=id R'
 refine⟨_,rfl,p,dx,_,rfl,hp,zd9 _ _ _ (by decide +kernel) (by decide +kernel) (by decide +kernel),p,_,blanksL,s,j,d,rfl,.inl rfl,R',hz,_,rfl,?_⟩
 cases c:atP (inL blanksL) s j with
 |true=>
  refine zj4 ⟨fun σ' H''=>∃n',n'<s.length - j∧∃j',σ'=[some (.ref p)]∧RdAt C H'' p s j' d∧But1 p H H''∧zb4 s j'=zb4 s i∧n'=s.length - j',fun σ' H'' z=>z,?_⟩
  have hj:=zd8 c
  refine⟨_,rfl,p,C,dx,_,_,rfl,hp,T.cl,T.nP,zf3 _ _ _,_,_,rfl,rfl,dx,_,hp,(by show 3<1000;decide),s.length - (j+1),by omega,j+1,rfl,⟨dx,?_⟩,b'.trans But1.up,?_,rfl⟩
  ·rw[za2,rf_put];rfl
  ·rw[←e];exact zu9 c
 |false=>
  have e2:zb4 s j=j:=zi2 c
  rw[e2] at e
  rw[←e] at q
  exact zk5 (q H' R' b')
theorem scRdN:FnScope ps2 ps2 (zb2 zx8):=⟨rfl,rfl,rfl,by decide +kernel,rfl,by decide +kernel,by decide +kernel⟩
theorem ok_rdNext{fA fP:Addr}{aD pD:FuncData}(F:Fun K "is_next" "Reader.is_next" zx8 f fd)(T:Rdr K mg C)(A:MO P w K mg base C CX0 1 fA aD "is_at" ps2 (rdAt K C))(B:MO P w K mg base C CX0 2 fP pD "pass_blanks" ps1 (yb3 C)):
  FnOk P w K mg base CX0 3 f fd ps2 (zo0 K C):=by
 refine F.okq scRdN (fun vs H Q E h=>?_) (fun cdv A0 outer s0 H vs Q E hr h=>?_)
 ·obtain⟨p,v,zs,s,i,d,rfl,_⟩:=h
  rfl
 obtain⟨p,v,zs,s,i,d,rfl,hv,R,hz,q⟩:=h
 obtain⟨dx,hp⟩:=id R
 refine⟨_,za0 (zd5 (ze6 (pvq 0) T.cl B.m B.ok hr B.b .nil zd2)) (za7 (zc0 (zc1 (pvq 0) T.cl A.m A.ok (hr.mono (by decide)) A.b .nil zd2 (za4 (pvq 1) za1)))),?_⟩
 refine⟨_,rfl,p,dx,_,rfl,hp,zd9 _ _ _ (by decide +kernel) (by decide +kernel) (by decide +kernel),p,s,i,d,rfl,R,hz,fun H' R' b'=>?_⟩
 obtain⟨dx',hp'⟩:=id R'
 exact⟨_,rfl,p,dx',_,rfl,hp',zd9 _ _ _ (by decide +kernel) (by decide +kernel) (by decide +kernel),_,rfl,p,v,zs,s,_,d,rfl,hv,R',hz,q H' R' b'⟩
theorem scRdT:FnScope zq8 zq8 (zb2 zx4):=⟨rfl,rfl,rfl,by decide +kernel,rfl,by decide +kernel,by decide +kernel⟩
theorem ok_rdTake{fN:Addr}{nD:FuncData}(F:Fun K "take" "Reader.take" zx4 f fd)(T:Rdr K mg C)(Z:RKit P w K mg base C CX Eb)(B:MO P w K mg base C CX0 3 fN nD "is_next" ps2 (zo0 K C)):
  FnOk P w K mg base CX 6 f fd zq8 (zq5 K C Eb):=by
 refine F.okGq scRdT (fun vs H Q E h=>?_) (fun cdv A0 outer s0 H vs Q E hr h=>?_)
 ·obtain⟨p,v,zs,s,i,d,rfl,_⟩:=h
  rfl
 obtain⟨p,v,zs,s,i,d,rfl,hv,R,hz,q1,q2⟩:=h
 obtain⟨dx,hp⟩:=id R
 refine⟨_,za0 (ze9 (yf3 (zd1 (zc1 (pvq 0) T.cl B.m B.ok (hr.mono (by decide)) B.b .nil zd2 (za4 (pvq 1) za1)))) (za7 (Z.raise rfl (Or.inl rfl) rfl (hr.mono (by decide)))) zc9)
  (za7 (zk2 (pvq 0) za5 yk2)),?_⟩
 refine⟨_,rfl,p,dx,_,rfl,hp,zd9 _ _ _ (by decide +kernel) (by decide +kernel) (by decide +kernel),_,rfl,p,v,zs,s,i,d,rfl,hv,R,hz,fun H' R' b'=>⟨_,rfl,?_⟩⟩
 obtain⟨dx',hp'⟩:=id R'
 cases c:atP (inL zs) s (zb4 s i) with
 |true=>
  refine zk5 ⟨_,rfl,p,C,dx',_,_,rfl,hp',T.cl,T.nP,zf3 _ _ _,_,_,rfl,rfl,dx',_,hp',(by show 3<1000;decide),?_⟩
  rw[rf_put]
  exact q1 c _ ⟨dx',za2⟩ (b'.trans But1.up)
 |false=>exact zj4 ⟨p,dx',_,zb4 s i,rfl,hp',zf3 _ _ _,q2 c H' b'⟩
end
end Pq
namespace Pq
open PySem L2
theorem zu5(f:Nat→Bool):∀l:List Nat,l.take (l.takeWhile f).length=l.takeWhile f
 |[]=>rfl
 |c::l=>by
  rw[List.takeWhile_cons]
  cases f c with
  |true=>simp[zu5 f l]
  |false=>rfl
theorem yc4(f:Nat→Bool):∀(l:List Nat) (c:Nat),c∈l.takeWhile f→f c=true
 |a::l,c,h=>by
  rw[List.takeWhile_cons] at h
  cases q:f a with
  |true=>
   rw[q] at h
   rcases List.mem_cons.mp h with z|z
   ·rw[z];exact q
   ·exact yc4 f l c z
  |false=>rw[q] at h;cases h
theorem cutS_run(f:Nat→Bool)(s:List Nat)(i:Nat):cutS s i (zc6 f s i)=(s.drop i).takeWhile f:=by
 unfold cutS zc6
 have e:i+((s.drop i).takeWhile f).length - i=((s.drop i).takeWhile f).length:=by omega
 rw[e]
 exact zu5 f (s.drop i)
theorem fig_at:∀c∈figuresL,figuresL[c - 48]? = some c:=by decide
theorem yn2:figuresL.Nodup:=by decide
theorem val_snoc(ds:List Nat)(c:Nat):zh7 (ds++[c])=10*zh7 ds+(c - 48):=by
 unfold zh7
 rw[List.foldl_append];rfl
def rdNum(C:Addr):Sp:=fun vs H Q _=>∃(p:Addr) (s:List Nat) (i d:Nat),vs=[.ref p]∧RdAt C H p s i d∧s.length≤1000000∧i≤s.length∧∀H',RdAt C H' p s (yf9 s i) d→But1 p H H'→Q (.int (numV s i:Nat)) H'
section
variable {P:Program}{w:World}{K:PySem.W.Frag}{mg:Str→Option Value}{base:Heap}{f:Addr}{fd:FuncData}{C:Addr}{CX:CXT}{Eb:XK→Nat→Hp→Prop}
theorem scRdR:FnScope ["self","signs","begin"] ps2 (zb2 yi0):=⟨rfl,rfl,rfl,by decide +kernel,rfl,by decide +kernel,by decide +kernel⟩
theorem ok_rdRun{fA:Addr}{aD:FuncData}(F:Fun K "take_run" "Reader.take_run" yi0 f fd)(T:Rdr K mg C)(A:MO P w K mg base C CX0 1 fA aD "is_at" ps2 (rdAt K C)):FnOk P w K mg base CX0 2 f fd ps2 (rdRun K C):=by
 refine F.okq scRdR (fun vs H Q E h=>?_) (fun cdv A0 outer s0 H vs Q E hr h=>?_)
 ·obtain⟨p,v,zs,s,i,d,rfl,_⟩:=h
  rfl
 obtain⟨p,v,zs,s,i,d,rfl,hv,R,hz,hi,q⟩:=h
 obtain⟨dx,hp⟩:=id R
 have nd:=scRdR.nd
 refine⟨_,za0 (zb1 (i:=2) nd rfl (Or.inl rfl) (zf9 (pvq 0) rfl))<|za0 (zi4 PassesOwn.never (zd1 (zc1 (pvq 0) T.cl A.m A.ok hr A.b .nil zd2 (za4 (pvq 1) za1))) (za7 (zk2 (pvq 0) za5 yk2)))<|
  za7 (zc0 (zg5 zq4 (zf9 (pvq 0) rfl) (zh4 (pvq 2)) (zh4 (zf9 (pvq 0) rfl)))),?_⟩
 refine⟨_,rfl,p,C,dx,_,_,rfl,hp,T.cl,T.nP,zf3 _ _ _,?_⟩
 refine⟨fun m σ H'=>∃j,σ=[some (.ref p),some v,some (.int (i:Nat))]∧RdAt C H' p s j d∧But1 p H H'∧zc6 (inL zs) s j=zc6 (inL zs) s i∧i≤j∧j≤s.length∧m=s.length - j,⟨_,i,rfl,R,But1.refl,rfl,Nat.le_refl _,hi,rfl⟩,?_⟩
 rintro m σ H' ⟨j,rfl,R',b',e,hij,hjl,rfl⟩
 obtain⟨dx,hp⟩:=id R'
 refine⟨_,rfl,p,dx,_,rfl,hp,zd9 _ _ _ (by decide +kernel) (by decide +kernel) (by decide +kernel),_,rfl,p,_,zs,s,j,d,rfl,hv,R',hz,_,rfl,?_⟩
 cases c:atP (inL zs) s j with
 |true=>
  refine zj4 ⟨fun σ' H''=>∃n',n'<s.length - j∧∃j',σ'=[some (.ref p),some v,some (.int (i:Nat))]∧RdAt C H'' p s j' d∧But1 p H H''∧zc6 (inL zs) s j'=zc6 (inL zs) s i∧i≤j'∧j'≤s.length∧n'=s.length - j',fun σ' H'' z=>z,?_⟩
  have hj:=zd8 c
  refine⟨_,rfl,p,C,dx,_,_,rfl,hp,T.cl,T.nP,zf3 _ _ _,_,_,rfl,rfl,dx,_,hp,(by show 3<1000;decide),s.length - (j+1),by omega,j+1,rfl,⟨dx,?_⟩,b'.trans But1.up,?_,by omega,by omega,rfl⟩
  ·rw[za2,rf_put];rfl
  ·rw[←e];exact zu9 c
 |false=>
  rw[zi2 c] at e
  rw[←e] at q
  have q:=q H' R' b'
  have es:=slice_ij s i j hij hjl
  refine zk5 ⟨_,rfl,p,C,dx,_,_,rfl,hp,T.cl,T.nT,zp2 _ _ _,_,rfl,_,rfl,_,rfl,p,C,dx,_,_,rfl,hp,T.cl,T.nP,zf3 _ _ _,_,rfl,tx s,rfl,?_,?_⟩
  ·rw[es,ze4]
   refine zb7 ?_
   have:=List.length_take_le (j - i) (s.drop i)
   rw[List.length_take]
   omega
  ·rw[es];exact q
theorem scRdE:FnScope zq8 zq8 (zb2 zr3):=⟨rfl,rfl,rfl,by decide +kernel,rfl,by decide +kernel,by decide +kernel⟩
theorem ym2{fN fT:Addr}{nD tD:FuncData}(F:Fun K "enter" "Reader.enter" zr3 f fd)(T:Rdr K mg C)(Z:RKit P w K mg base C CX Eb)(B:MO P w K mg base C CX0 3 fN nD "is_next" ps2 (zo0 K C))
  (TK:MO P w K mg base C CX 6 fT tD "take" zq8 (zq5 K C Eb)):FnOk P w K mg base CX 7 f fd zq8 (zy5 K C Eb):=by
 refine F.okGq scRdE (fun vs H Q E h=>?_) (fun cdv A0 outer s0 H vs Q E hr h=>?_)
 ·obtain⟨p,v,zs,s,i,d,rfl,_⟩:=h
  rfl
 obtain⟨p,v,zs,s,i,d,rfl,hv,R,hz,q1,q2⟩:=h
 obtain⟨dx,hp⟩:=id R
 obtain⟨um,hm,rm⟩:=T.most
 refine⟨_,za0 (ze9 (PW.ptq (zn4 (zd1 (zc1 (pvq 0) T.cl B.m B.ok (hr.mono (by decide)) B.b .nil zd2 (za4 (pvq 1) za1))) (zk9 (zc5 zm9 (zf9 (pvq 0) rfl) (zg6 rfl hm rm) (ze1 _))))) (za7 (Z.raise rfl (Or.inl rfl) rfl (hr.mono (by decide)))) zc9)<|
  za0 (zd5 (zc1 (pvq 0) T.cl TK.m TK.ok hr TK.b .nil Z.pass (za4 (pvq 1) za1)))<|za7 (zk2 (pvq 0) za5 yk2),?_⟩
 refine⟨_,rfl,p,dx,_,rfl,hp,zd9 _ _ _ (by decide +kernel) (by decide +kernel) (by decide +kernel),_,rfl,p,v,zs,s,i,d,rfl,hv,R,hz,fun H' R' b'=>⟨_,rfl,?_⟩⟩
 obtain⟨dx',hp'⟩:=id R'
 cases c:atP (inL zs) s (zb4 s i) with
 |true=>
  refine zj4 ⟨_,rfl,p,C,dx',_,_,rfl,hp',T.cl,T.nD,zy3 _ _ _,rfl,_,rfl,?_⟩
  refine ite2 (fun c2=>?_) (fun c2=>?_)
  ·have e:(d:Int)=20:=V.int.inj (of_decide_eq_true c2)
   exact⟨p,dx',_,zb4 s i,rfl,hp',zf3 _ _ _,q2 (.inr (by omega)) H' b'⟩
  ·have e:d≠20:=fun z=>c2 (decide_eq_true (by rw[z];rfl))
   refine⟨_,rfl,p,dx',_,rfl,hp',zd9 _ _ _ (by decide +kernel) (by decide +kernel) (by decide +kernel),_,rfl,p,v,zs,s,_,d,rfl,hv,R',hz,fun _ H2 R2 b2=>?_,fun z=>?_⟩
   ·rw[zc8] at R2
    obtain⟨dx2,hp2⟩:=id R2
    refine⟨_,rfl,p,C,dx2,_,_,rfl,hp2,T.cl,T.nD,zy3 _ _ _,_,_,rfl,rfl,dx2,_,hp2,(by show 3<1000;decide),?_⟩
    rw[rf_dep]
    exact q1 c e _ ⟨dx2,za2⟩ (b'.trans (b2.trans But1.up))
   ·rw[zc8,c] at z;cases z
 |false=>
  refine zk5 (zk5 ?_)
  refine⟨_,rfl,p,dx',_,rfl,hp',zd9 _ _ _ (by decide +kernel) (by decide +kernel) (by decide +kernel),_,rfl,p,v,zs,s,_,d,rfl,hv,R',hz,fun z=>?_,fun _ H2 b2=>?_⟩
  ·rw[zc8,c] at z;cases z
  ·rw[zc8];exact q2 (.inl c) H2 (b'.trans b2)
theorem scRdL:FnScope zq8 zq8 (zb2 zr2):=⟨rfl,rfl,rfl,by decide +kernel,rfl,by decide +kernel,by decide +kernel⟩
theorem ym1{fT:Addr}{tD:FuncData}(F:Fun K "leave" "Reader.leave" zr2 f fd)(T:Rdr K mg C)(Z:RKit P w K mg base C CX Eb)
  (TK:MO P w K mg base C CX 6 fT tD "take" zq8 (zq5 K C Eb)):FnOk P w K mg base CX 7 f fd zq8 (zs7 K C Eb):=by
 refine F.okGq scRdL (fun vs H Q E h=>?_) (fun cdv A0 outer s0 H vs Q E hr h=>?_)
 ·obtain⟨p,v,zs,s,i,d,rfl,_⟩:=h
  rfl
 obtain⟨p,v,zs,s,i,d,rfl,hv,R,hz,q1,q2⟩:=h
 obtain⟨dx,hp⟩:=id R
 refine⟨_,za0 (zd5 (zc1 (pvq 0) T.cl TK.m TK.ok hr TK.b .nil Z.pass (za4 (pvq 1) za1)))<|za7 (zk2 (pvq 0) za5 in_sub),?_⟩
 refine⟨_,rfl,p,dx,_,rfl,hp,zd9 _ _ _ (by decide +kernel) (by decide +kernel) (by decide +kernel),_,rfl,p,v,zs,s,_,d+1,rfl,hv,R,hz,fun c H2 R2 b2=>?_,fun c H2 b2=>q2 c H2 b2⟩
 obtain⟨dx2,hp2⟩:=id R2
 refine⟨_,rfl,p,C,dx2,_,_,rfl,hp2,T.cl,T.nD,zy3 _ _ _,_,_,rfl,rfl,dx2,_,hp2,(by show 3<1000;decide),?_⟩
 rw[rf_dep]
 have e:((d+1:Nat):Int) - 1=(d:Int):=by omega
 rw[e]
 exact q1 c _ ⟨dx2,za2⟩ (b2.trans But1.up)
theorem scRdU:FnScope ["self","number","figure"] ps1 (zb2 yi1):=⟨rfl,rfl,rfl,by decide +kernel,rfl,by decide +kernel,by decide +kernel⟩
theorem yn4:(Str.ofString "0")=tx [48]:=by decide +kernel
theorem ok_rdNum{fA fT fR:Addr}{aD tD rD:FuncData}(F:Fun K "number" "Reader.number" yi1 f fd)(T:Rdr K mg C)(Z:RKit P w K mg base C CX Eb)(A:MO P w K mg base C CX0 1 fA aD "is_at" ps2 (rdAt K C))
  (TK:MO P w K mg base C CX 6 fT tD "take" zq8 (zq5 K C Eb)) (RN:MO P w K mg base C CX0 2 fR rD "take_run" ps2 (rdRun K C)):FnOk P w K mg base CX 7 f fd ps1 (rdNum C):=by
 refine F.okGq scRdU (fun vs H Q E h=>?_) (fun cdv A0 outer s0 H vs Q E hr h=>?_)
 ·obtain⟨p,s,i,d,rfl,_⟩:=h
  rfl
 obtain⟨p,s,i,d,rfl,R,hz,hi,q⟩:=h
 obtain⟨dx,hp⟩:=id R
 obtain⟨uf,hf,rff⟩:=T.figures
 have nd:=scRdU.nd
 refine⟨_,za0 (ze9 (zd1 (zc1 (pvq 0) T.cl A.m A.ok (hr.mono (by decide)) A.b .nil zd2 (za3 za8 za1))) (za0 (zd5 (zc1 (pvq 0) T.cl TK.m TK.ok hr TK.b .nil Z.pass (za3 za8 za1))) (za7 (zc0 za5))) zc9)<|
  za0 (zb1 (i:=1) nd rfl (Or.inl rfl) za5)<|za0 (yf4 PassesOwn.leaving rfl (pi_strq (zc1 (pvq 0) T.cl RN.m RN.ok (hr.mono (by decide)) RN.b .nil zd2 (za4 (zg6 rfl hf rff) za1))) (zy7 (i:=2) nd rfl (Or.inl rfl))
   (za7 (zb1 (i:=1) nd rfl (Or.inl rfl) (zb3 zg7 (zb3 zs9 za5 (pvq 1)) (zq7 PySem.F.plainAttrs_str PySem.F.slot_str_index PySem.F.type_str_index mt_index (zg6 rfl hf rff) (za4 (pvq 2) za1))))))<|za7 (zc0 (pvq 1)),?_⟩
 refine⟨_,rfl,p,dx,_,rfl,hp,zd9 _ _ _ (by decide +kernel) (by decide +kernel) (by decide +kernel),p,_,[48],s,i,d,rfl,.inl (by rw[yn4]),R,hz,_,rfl,?_⟩
 unfold yf9 numV at q
 cases c:atP (inL [48]) s i with
 |true=>
  rw[if_pos c,if_pos c] at q
  have es:zb4 s i=i:=yb1 c (fun c' h=>by
   have:c'=48:=by simpa [inL] using h
   subst this;rfl)
  refine zj4 ⟨_,rfl,p,dx,_,rfl,hp,zd9 _ _ _ (by decide +kernel) (by decide +kernel) (by decide +kernel),p,_,[48],s,i,d,rfl,.inl (by rw[yn4]),R,hz,fun _ H2 R2 b2=>?_,fun z=>?_⟩
  ·rw[es] at R2
   exact q H2 R2 b2
  ·rw[es,c] at z;cases z
 |false=>
  rw[if_neg (by rw[c];decide),if_neg (by rw[c];decide)] at q
  refine zk5 ⟨_,rfl,p,dx,_,rfl,hp,zd9 _ _ _ (by decide +kernel) (by decide +kernel) (by decide +kernel),p,_,figuresL,s,i,d,rfl,.inl rfl,R,hz,hi,fun H1 R1 b1=>⟨_,rfl,?_⟩⟩
  have q:=q H1 R1 b1
  have hall:∀c∈cutS s i (zc6 (inL figuresL) s i),c∈figuresL:=fun c hc=>by
   rw[cutS_run] at hc
   have:=yc4 _ _ _ hc
   simpa [inL] using this
  generalize cutS s i (zc6 (inL figuresL) s i)=ds at q hall
  refine for_str (fun k σ H'=>∃v,σ=[some (.ref p),some (.int (zh7 (ds.take k):Nat)),v]∧H'=H1) ⟨_,rfl,rfl⟩ ?_ ?_
  ·rintro k c' σ H' hc ⟨v,rfl,rfl⟩
   have hc1:ds[k]? = some c':=by simpa [tx] using hc
   have hm:=hall c' (List.mem_of_getElem? hc1)
   obtain⟨r,ho⟩:=index_one figuresL c' (c' - 48) (fig_at c' hm) yn2
   refine⟨_,rfl,_,_,rfl,rfl,.inl ⟨by decide,by decide⟩,rfl,_,rfl,tx figuresL,tx [c'],_,_,rfl,rfl,ho,_,_,rfl,rfl,some (.str (tx [c'])),?_,rfl⟩
   rw[zs4 hc1,val_snoc]
   show[some (V.ref p),some (V.int (10*((zh7 (ds.take k):Nat):Int)+((c' - 48:Nat):Int))),some (V.str (tx [c']))]=_
   have e:(10:Int)*((zh7 (ds.take k):Nat):Int)+((c' - 48:Nat):Int)=((10*zh7 (ds.take k)+(c' - 48):Nat):Int):=by omega
   rw[e]
  ·rintro σ H' ⟨v,rfl,rfl⟩
   have e:ds.take (tx ds).cps.size=ds:=by simp[tx]
   rw[e]
   exact⟨_,rfl,q⟩
end
end Pq
namespace Pq
open PySem L2
def OutT(C p:Addr)(s:List Nat)(d:Nat)(H:Hp)(Q:VK)(E:XK)(Eb:XK→Nat→Hp→Prop)(r:Res):Prop:=
 (∀t j,r=.tree t j→∀a H',RdAt C H' p s j d→TreeAt H' t a→But1 p H H'→Q (.ref a) H')∧(∀q,r=.bad q→∀H',But1 p H H'→Eb E q H')
def OutTs(C p:Addr)(s:List Nat)(d:Nat)(H:Hp)(Q:VK)(E:XK)(Eb:XK→Nat→Hp→Prop)(r:Res):Prop:=
 (∀ts j,r=.trees ts j→∀l as H',RdAt C H' p s j d→H' l=some (.tup (as.map V.ref))→TreesAt H' ts as→But1 p H H'→Q (.ref l) H')∧(∀q,r=.bad q→∀H',But1 p H H'→Eb E q H')
def zj6(C:Addr)(Eb:XK→Nat→Hp→Prop)(job:Job)(L:Nat):Sp:=fun vs H Q E=>∃(p:Addr) (s:List Nat) (i d n:Nat) (r:Res),vs=[.ref p]∧RdAt C H p s i d∧s.length≤100000∧d≤20∧20<d+L∧go s n job d i=some r∧OutT C p s d H Q E Eb r
def rdName(C:Addr)(Eb:XK→Nat→Hp→Prop)(L:Nat):Sp:=fun vs H Q E=>∃(p:Addr) (s:List Nat) (i d n:Nat) (r:Res),vs=[.ref p]∧RdAt C H p s i d∧s.length≤100000∧d≤20∧20<d+L∧atP (inL zb0) s i=true∧zm0 (go s n) s d i=some r∧OutT C p s d H Q E Eb r
def zy4(C:Addr)(Eb:XK→Nat→Hp→Prop)(L:Nat):Sp:=fun vs H Q E=>∃(p:Addr) (s:List Nat) (i d n o c:Nat) (r:Res),vs=[.ref p,.str (tx [o]),.str (tx [c])]∧RdAt C H p s i d∧s.length≤100000∧d≤20∧20<d+L∧atP (inL [o]) s i=true∧inL blanksL o=false∧go s n (.parts c) d i=some r∧OutTs C p s d H Q E Eb r
theorem at_stay{s:List Nat}{i o:Nat}(h:atP (inL [o]) s i=true)(ho:inL blanksL o=false):zb4 s i=i:=yb1 h fun c hc=>by
 have:c=o:=by simpa [inL] using hc
 rw[this];exact ho
theorem zr9:(Str.ofString ",")=tx [44]:=by decide +kernel
theorem lp_tx:(Str.ofString "(")=tx [40]:=by decide +kernel
theorem rp_tx:(Str.ofString ")")=tx [41]:=by decide +kernel
theorem lb_tx:(Str.ofString "[")=tx [91]:=by decide +kernel
theorem rb_tx:(Str.ofString "]")=tx [93]:=by decide +kernel
section
variable {P:Program}{w:World}{K:PySem.W.Frag}{mg:Str→Option Value}{base:Heap}{f:Addr}{fd:FuncData}{C:Addr}{CX:CXT}{Eb:XK→Nat→Hp→Prop}
theorem scRdPs:FnScope ["self","opening","closing","parts"] ["self","opening","closing"] (zb2 zr1):=⟨rfl,rfl,rfl,by decide +kernel,rfl,by decide +kernel,by decide +kernel⟩
theorem ym0 {L : Nat} {fN fT fE fL fS : Addr} {nD tD eD lD sD : FuncData} (F : Fun K "parts" "Reader.parts" zr1 f fd) (T : Rdr K mg C) (Z : RKit P w K mg base C CX Eb) (B : MO P w K mg base C CX0 3 fN nD "is_next" ps2 (zo0 K C))
    (TK : MO P w K mg base C CX 6 fT tD "take" zq8 (zq5 K C Eb)) (EN : MO P w K mg base C CX 7 fE eD "enter" zq8 (zy5 K C Eb)) (LV : MO P w K mg base C CX 7 fL lD "leave" zq8 (zs7 K C Eb))
    (S : MO P w K mg base C CX (6 * L + 10) fS sD "sum_tree" ps1 (zj6 C Eb .sum L)) : FnOk P w K mg base CX (6 * L + 12) f fd ["self", "opening", "closing"] (zy4 C Eb (L + 1)) := by
  refine F.okGq (k := 6 * L + 11) scRdPs (fun vs H Q E h => ?_) (fun cdv A0 outer s0 H vs Q E hr h => ?_)
  · obtain ⟨p, s, i, d, n, o, c, r, rfl, _⟩ := h
    rfl
  obtain ⟨p, s, i, d, n, o, c, r, rfl, R, hz, hd, hL, ho, hb, hg, o1, o2⟩ := h
  obtain ⟨dx, hp⟩ := id R
  have nd := scRdPs.nd
  have hr3 : Room 3 _ := hr.mono (by omega)
  have hr6 : Room 6 _ := hr.mono (by omega)
  have hr7 : Room 7 _ := hr.mono (by omega)
  have hrS : Room (6 * L + 10) _ := hr.mono (by omega)
  refine ⟨_, za0 (zd5 (zc1 (pvq 0) T.cl EN.m EN.ok hr7 EN.b .nil Z.pass (za4 (pvq 1) za1))) <| za0 (zb1 (i := 3) nd rfl (Or.inl rfl) (ze0 za1)) <|
    za0 (ze9 (yf3 (zd1 (zc1 (pvq 0) T.cl B.m B.ok hr3 B.b .nil zd2 (za4 (pvq 2) za1))))
      (za0 (zd5 (zq7 PySem.F.plainAttrs_list PySem.F.slot_list_append PySem.F.type_list_append zo3 (pvq 3) (zf4 (ze6 (pvq 0) T.cl S.m S.ok hrS S.b .nil Z.pass) za1))) <|
       za7 (zi4 PassesOwn.leaving (zd1 (zc1 (pvq 0) T.cl B.m B.ok hr3 B.b .nil zd2 (za3 za8 za1)))
         (za0 (zd5 (zc1 (pvq 0) T.cl TK.m TK.ok hr6 TK.b .nil Z.pass (za3 za8 za1))) <|
          za7 (zd5 (zq7 PySem.F.plainAttrs_list PySem.F.slot_list_append PySem.F.type_list_append zo3 (pvq 3) (zf4 (ze6 (pvq 0) T.cl S.m S.ok hrS S.b .nil Z.pass) za1)))))) zc9) <|
    za0 (zd5 (zc1 (pvq 0) T.cl LV.m LV.ok hr7 LV.b .nil Z.pass (za4 (pvq 2) za1))) <|
    za7 (zc0 (zh0 zl4 rfl T.tup PyProof.Rows.boot_tuple (za4 (pvq 3) za1))), ?_⟩
  have ei := at_stay ho hb
  refine ⟨_, rfl, p, dx, _, rfl, hp, zd9 _ _ _ (by decide +kernel) (by decide +kernel) (by decide +kernel), _, rfl, p, _, [o], s, i, d, rfl, .inl rfl, R, by omega, ?_, ?_⟩
  case refine_2 =>
    intro hz2 H' b'
    rw [ei] at hz2 ⊢
    rcases hz2 with z | z
    · rw [ho] at z; cases z
    · cases n with
      | zero => cases hg
      | succ n =>
        have hg : (if d = 20 then some (Res.bad i) else _) = some r := hg
        rw [if_pos z] at hg
        exact o2 i (Option.some.inj hg).symm H' b'
  intro _ hd20 H1 R1 b1
  rw [ei] at R1
  cases n with
  | zero => cases hg
  | succ n =>
  have hg : (if d = 20 then some (Res.bad i) else if atP (inL [c]) s (zb4 s (i + 1)) = true then some (Res.trees [] (zb4 s (i + 1) + 1)) else zd0 (go s n .sum (d + 1) (zb4 s (i + 1))) fun t j => go s n (.partsL c [t]) d j) = some r := hg
  rw [if_neg hd20] at hg
  have fin : ∀ (ts : List Tr) (as : List Addr) (pl : Addr) (j : Nat) (H2 : Hp), RdAt C H2 p s j (d + 1) → H2 pl = some (.lst (as.map V.ref)) → TreesAt H2 ts as → But1 p H H2 → (atP (inL [c]) s (zb4 s j) = true → r = .trees ts (zb4 s j + 1)) → (atP (inL [c]) s (zb4 s j) = false → r = .bad (zb4 s j)) →
      zs7 K C Eb [.ref p, .str (tx [c])] H2 (fun _ H3 => ∃ q ys, ([V.ref pl] : List V) = [.ref q] ∧ ((SqL K H3 q ys ∧ ∀ l, H3 l = none → Q (.ref l) (upd H3 l (.tup ys))) ∨ (SqT K H3 q ys ∧ Q (.ref q) H3))) E := fun ts as pl j H2 R2 hpl ht b2 e1 e2 => by
    refine ⟨p, _, [c], s, j, d, rfl, .inl rfl, R2, by omega, fun cc H3 R3 b3 => ⟨pl, _, rfl, .inl ⟨SqL.of (R2.lst b3 hpl), fun l hl => ?_⟩⟩, fun cc H3 b3 => o2 _ (e2 cc) H3 (b2.trans b3)⟩
    have s4 := za6 hl (.tup (as.map V.ref))
    exact o1 ts _ (e1 cc) l as _ (R3.same s4) za2 (TreesAt.mono ((R2.tups b3).trans (.of s4)) ht) (b2.trans (b3.trans (But1.of s4)))
  refine ⟨(by show 0 ≤ sizeLine; decide), fun pl hpl => ?_⟩
  have s2 := za6 hpl (.lst [])
  have R2 := R1.same s2
  have npl : pl ≠ p := fun z => by obtain ⟨_, q⟩ := R1; rw [z, q] at hpl; cases hpl
  have nH : H pl = none := by
    cases q : H pl with
    | none => rfl
    | some u => rw [b1 pl u q npl] at hpl; cases hpl
  obtain ⟨dx2, hp2⟩ := id R2
  refine ⟨_, rfl, p, dx2, _, rfl, hp2, zd9 _ _ _ (by decide +kernel) (by decide +kernel) (by decide +kernel), _, rfl, p, _, [c], s, i + 1, d + 1, rfl, .inl rfl, R2, by omega, fun H3 R3 b3 => ⟨_, rfl, ?_⟩⟩
  have hl3 := R2.lst b3 (za2 : (upd H1 pl (.lst [])) pl = _)
  have b13 : But1 p H H3 := b1.trans ((But1.of s2).trans b3)
  obtain ⟨dx3, hp3⟩ := id R3
  cases c1 : atP (inL [c]) s (zb4 s (i + 1)) with
  | true =>
    rw [if_pos c1] at hg
    refine zk5 ⟨_, rfl, p, dx3, _, rfl, hp3, zd9 _ _ _ (by decide +kernel) (by decide +kernel) (by decide +kernel), _, rfl, ?_⟩
    obtain ⟨p', v', zs', s', j', d', h1, h2, h3, h4, h5, h6⟩ := fin [] [] pl (zb4 s (i + 1)) H3 R3 hl3 rfl b13 (fun _ => by rw [zc8]; exact (Option.some.inj hg).symm) (fun z => by rw [zc8, c1] at z; cases z)
    exact ⟨p', v', zs', s', j', d', h1, h2, h3, h4, fun cc H4 R4 b4 => ⟨_, rfl, h5 cc H4 R4 b4⟩, h6⟩
  | false =>
    rw [if_neg (by rw [c1]; decide)] at hg
    have part : ∀ (as : List Addr) (ts : List Tr) (j m : Nat) (H4 : Hp) (G : Hp → Prop) (r1 : Res), RdAt C H4 p s j (d + 1) → H4 pl = some (.lst (as.map V.ref)) → TreesAt H4 ts as → But1 p H H4 → as.length ≤ 1000000 → go s m .sum (d + 1) j = some r1 → (∀ q, r1 = .bad q → r = .bad q) →
        (∀ t j' a H5, r1 = .tree t j' → RdAt C H5 p s j' (d + 1) → H5 pl = some (.lst ((as ++ [a]).map V.ref)) → TreesAt H5 (ts ++ [t]) (as ++ [a]) → But1 p H H5 → G H5) →
        zj6 C Eb .sum L [.ref p] H4 (fun y H5 => ∃ l xs y', V.ref pl = .ref l ∧ [y] = [y'] ∧ H5 l = some (.lst xs) ∧ xs.length < sizeLine ∧ G (upd H5 l (.lst (xs ++ [y'])))) E := fun as ts j m H4 G r1 R4 hl4 ht4 b4 hlen hg1 hbad hG => by
      refine ⟨p, s, j, d + 1, m, r1, rfl, R4, hz, by omega, by omega, hg1, fun t j' e a H5 R5 ta b5 => ?_, fun q e H5 b5 => o2 q (hbad q e) H5 (b4.trans b5)⟩
      have hl5 := R4.lst b5 hl4
      have u5 : Tups H5 (upd H5 pl (.lst (as.map V.ref ++ [.ref a]))) := yh5 hl5
      refine ⟨pl, _, _, rfl, rfl, hl5, Nat.lt_of_lt_of_le (show (as.map V.ref).length < 1000001 by rw [List.length_map]; omega) (zb7 (by omega)), hG t j' a _ e ?_ ?_ ?_ ?_⟩
      · obtain ⟨dy, hy⟩ := R5
        exact ⟨dy, by rw [zb8 npl.symm]; exact hy⟩
      · rw [za2, List.map_append]; rfl
      · exact TreesAt.snoc (TreesAt.mono ((R4.tups b5).trans u5) ht4) (ta.mono u5)
      · intro b' o' e' n'
        rw [zb8 (zb6 e' nH)]
        exact b5 b' o' (b4 b' o' e' n') n'
    have sumr : ∃ r1, go s n .sum (d + 1) (zb4 s (i + 1)) = some r1 ∧ zd0 (some r1) (fun t j => go s n (.partsL c [t]) d j) = some r := by
      rcases zb9 hg with ⟨t, j, e1, e2⟩ | ⟨q, e1, e2⟩
      · exact ⟨_, e1, e2⟩
      · exact ⟨_, e1, by rw [e2]; rfl⟩
    obtain ⟨r1, hg1, hr1⟩ := sumr
    have hsk : zb4 s (i + 1) ≤ s.length := zk7 (by have := zd8 ho; omega)
    refine zj4 ⟨_, rfl, .inl ⟨rfl, _, SqL.of hl3⟩, _, rfl, p, dx3, _, rfl, hp3, zd9 _ _ _ (by decide +kernel) (by decide +kernel) (by decide +kernel), ?_⟩
    refine part [] [] (zb4 s (i + 1)) n H3 _ r1 R3 hl3 rfl b13 (by show 0 ≤ 1000000; decide) hg1 (fun q e => by subst e; exact (Option.some.inj hr1).symm) (fun t j' a H5 e R5 hl5 ht5 b5 => ?_)
    subst e
    have hg2 : go s n (.partsL c [t]) d j' = some r := hr1
    have hj' := (zz8 hsk hg1).1 t j' rfl
    have hsk1 := zf2 (s := s) (i := i + 1)
    refine ⟨fun m σ H' => ∃ ts as j, σ = [some (.ref p), some (.str (tx [o])), some (.str (tx [c])), some (.ref pl)] ∧ RdAt C H' p s j (d + 1) ∧ H' pl = some (.lst (as.map V.ref)) ∧ TreesAt H' ts as ∧ But1 p H H' ∧ go s m (.partsL c ts) d j = some r ∧ as.length ≤ j ∧ j ≤ s.length, ⟨n, [t], [a], j', rfl, R5, hl5, ht5, b5, hg2, by show 1 ≤ j'; omega, hj'.2⟩, ?_⟩
    rintro m σ H' ⟨ts, as, j, rfl, R', hl', ht', b', hgm, hlen, hjl⟩
    obtain ⟨dx', hp'⟩ := id R'
    refine ⟨_, rfl, p, dx', _, rfl, hp', zd9 _ _ _ (by decide +kernel) (by decide +kernel) (by decide +kernel), p, _, [44], s, j, d + 1, rfl, .inl (by rw [zr9]), R', by omega, fun H6 R6 b6 => ⟨_, rfl, ?_⟩⟩
    obtain ⟨dx6, hp6⟩ := id R6
    have hl6 := R'.lst b6 hl'
    have ht6 := TreesAt.mono (R'.tups b6) ht'
    cases m with
    | zero => cases hgm
    | succ m =>
    have hgm : (if atP (inL [44]) s (zb4 s j) = true then zd0 (go s m .sum (d + 1) (zb4 s j + 1)) fun t j => go s m (.partsL c (ts ++ [t])) d j else if atP (inL [c]) s (zb4 s j) = true then some (.trees ts (zb4 s j + 1)) else some (.bad (zb4 s j))) = some r := hgm
    cases c2 : atP (inL [44]) s (zb4 s j) with
    | true =>
      rw [if_pos c2] at hgm
      refine zj4 ⟨fun σ' H'' => ∃ n', n' < m + 1 ∧ ∃ ts as j, σ' = [some (.ref p), some (.str (tx [o])), some (.str (tx [c])), some (.ref pl)] ∧ RdAt C H'' p s j (d + 1) ∧ H'' pl = some (.lst (as.map V.ref)) ∧ TreesAt H'' ts as ∧ But1 p H H'' ∧ go s n' (.partsL c ts) d j = some r ∧ as.length ≤ j ∧ j ≤ s.length, fun σ' H'' z => z, ?_⟩
      have e6 : zb4 s (zb4 s j) = zb4 s j := zc8 s j
      refine ⟨_, rfl, p, dx6, _, rfl, hp6, zd9 _ _ _ (by decide +kernel) (by decide +kernel) (by decide +kernel), p, _, [44], s, zb4 s j, d + 1, rfl, .inl (by rw [zr9]), R6, by omega, fun _ H7 R7 b7 => ?_, fun z => by rw [e6, c2] at z; cases z⟩
      rw [e6] at R7
      obtain ⟨dx7, hp7⟩ := id R7
      have hl7 := R6.lst b7 hl6
      have sumr : ∃ r1, go s m .sum (d + 1) (zb4 s j + 1) = some r1 ∧ zd0 (some r1) (fun t j => go s m (.partsL c (ts ++ [t])) d j) = some r := by
        rcases zb9 hgm with ⟨t, j, e1, e2⟩ | ⟨q, e1, e2⟩
        · exact ⟨_, e1, e2⟩
        · exact ⟨_, e1, by rw [e2]; rfl⟩
      obtain ⟨r2, hg3, hr3'⟩ := sumr
      refine ⟨_, rfl, .inl ⟨rfl, _, SqL.of hl7⟩, _, rfl, p, dx7, _, rfl, hp7, zd9 _ _ _ (by decide +kernel) (by decide +kernel) (by decide +kernel), ?_⟩
      refine part as ts (zb4 s j + 1) m H7 _ r2 R7 hl7 (TreesAt.mono (R6.tups b7) ht6) (b'.trans (b6.trans b7)) ?len hg3 (fun q e => by subst e; exact (Option.some.inj hr3').symm) (fun t j' a H8 e R8 hl8 ht8 b8 => ?_)
      case len => omega
      subst e
      have hj2 := (zz8 (by have := zd8 c2; omega) hg3).1 t j' rfl
      have hj3 := zf2 (s := s) (i := j)
      exact ⟨m, Nat.lt_succ_self _, ts ++ [t], as ++ [a], j', rfl, R8, hl8, ht8, b8, hr3', by rw [List.length_append]; show as.length + 1 ≤ j'; omega, hj2.2⟩
    | false =>
      rw [if_neg (by rw [c2]; decide)] at hgm
      refine zk5 ⟨_, rfl, p, dx6, _, rfl, hp6, zd9 _ _ _ (by decide +kernel) (by decide +kernel) (by decide +kernel), _, rfl, ?_⟩
      obtain ⟨p', v', zs', s', j', d', h1, h2, h3, h4, h5, h6⟩ := fin ts as pl (zb4 s j) H6 R6 hl6 ht6 (b'.trans b6) (fun z => by rw [zc8] at z ⊢; rw [if_pos z] at hgm; exact (Option.some.inj hgm).symm) (fun z => by rw [zc8] at z ⊢; rw [if_neg (by rw [z]; decide)] at hgm; exact (Option.some.inj hgm).symm)
      exact ⟨p', v', zs', s', j', d', h1, h2, h3, h4, fun cc H4 R4 b4 => ⟨_, rfl, h5 cc H4 R4 b4⟩, h6⟩
theorem scRdNa:FnScope ["self","name"] ps1 (zb2 zx9):=⟨rfl,rfl,rfl,by decide +kernel,rfl,by decide +kernel,by decide +kernel⟩
theorem ok_rdName{L:Nat}{fN fR fP:Addr}{nD rD pD:FuncData}(F:Fun K "name_or_call" "Reader.name_or_call" zx9 f fd)(T:Rdr K mg C)(Z:RKit P w K mg base C CX Eb)(B:MO P w K mg base C CX0 3 fN nD "is_next" ps2 (zo0 K C))
  (RN:MO P w K mg base C CX0 2 fR rD "take_run" ps2 (rdRun K C)) (PA':MO P w K mg base C CX (6*L+12) fP pD "parts" ["self","opening","closing"] (zy4 C Eb (L+1))):FnOk P w K mg base CX (6*L+13) f fd ps1 (rdName C Eb (L+1)):=by
 refine F.okGq (k:=6*L+12) scRdNa (fun vs H Q E h=>?_) (fun cdv A0 outer s0 H vs Q E hr h=>?_)
 ·obtain⟨p,s,i,d,n,r,rfl,_⟩:=h
  rfl
 obtain⟨p,s,i,d,n,r,rfl,R,hz,hd,hL,hl,hg,o1,o2⟩:=h
 obtain⟨dx,hp⟩:=id R
 obtain⟨ul,hul,rul⟩:=T.letters
 have nd:=scRdNa.nd
 refine⟨_,za0 (zb1 (i:=1) nd rfl (Or.inl rfl) (zc1 (pvq 0) T.cl RN.m RN.ok (hr.mono (by omega)) RN.b .nil zd2 (za4 (zg6 rfl hul rul) za1)))<|
  za0 (ze9 (zd1 (zc1 (pvq 0) T.cl B.m B.ok (hr.mono (by omega)) B.b .nil zd2 (za3 za8 za1)))
   (za7 (zc0 (ze5 (za3 za8 (za4 (pvq 1) (zf4 (zc1 (pvq 0) T.cl PA'.m PA'.ok hr PA'.b .nil Z.pass (za3 za8 (za3 za8 za1))) za1)))))) zc9)<|
  za7 (zc0 (ze5 (za3 za8 (za4 (pvq 1) za1)))),?_⟩
 have hi:=zd8 hl
 refine⟨_,rfl,p,dx,_,rfl,hp,zd9 _ _ _ (by decide +kernel) (by decide +kernel) (by decide +kernel),p,_,zb0,s,i,d,rfl,.inl rfl,R,by omega,by omega,fun H1 R1 b1=>?_⟩
 obtain⟨dx1,hp1⟩:=id R1
 unfold zm0 at hg
 generalize zc6 (inL zb0) s i=e at hg R1 hp1
 generalize cutS s i e=nm at hg
 refine⟨_,rfl,p,dx1,_,rfl,hp1,zd9 _ _ _ (by decide +kernel) (by decide +kernel) (by decide +kernel),p,_,[40],s,e,d,rfl,.inl (by rw[lp_tx]),R1,by omega,fun H2 R2 b2=>⟨_,rfl,?_⟩⟩
 obtain⟨dx2,hp2⟩:=id R2
 cases c:atP (inL [40]) s (zb4 s e) with
 |true=>
  rw[if_pos c] at hg
  refine zj4 ⟨_,rfl,_,rfl,p,dx2,_,rfl,hp2,zd9 _ _ _ (by decide +kernel) (by decide +kernel) (by decide +kernel),?_⟩
  have pr:∃r1,go s n (.parts 41) d (zb4 s e)=some r1∧zi8 (some r1) (fun ts j=>some (.tree (.call nm ts) j))=some r:=by
   rcases zg3 hg with⟨t,j,e1,e2⟩|⟨q,e1,e2⟩
   ·exact⟨_,e1,e2⟩
   ·exact⟨_,e1,by rw[e2];rfl⟩
  obtain⟨r1,hg1,hr1⟩:=pr
  refine⟨p,s,zb4 s e,d,n,40,41,r1,by rw[lp_tx,rp_tx];rfl,R2,hz,hd,hL,c,rfl,hg1,fun ts j er l as H3 R3 hl3 ht3 b3=>?_,fun q er H3 b3=>?_⟩
  ·subst er
   refine⟨(by show 3≤sizeLine;decide),fun t ht=>?_⟩
   have s4:=za6 ht (.tup [.str "call",.str (tx nm),.ref l])
   exact o1 _ _ (Option.some.inj hr1).symm t _ (R3.same s4) ⟨l,as,za2,s4 _ _ hl3,TreesAt.mono (.of s4) ht3⟩ (b1.trans (b2.trans (b3.trans (But1.of s4))))
  ·subst er
   exact o2 q (Option.some.inj hr1).symm H3 (b1.trans (b2.trans b3))
 |false=>
  rw[if_neg (by rw[c];decide)] at hg
  refine zk5 ⟨_,rfl,(by show 2≤sizeLine;decide),fun t ht=>?_⟩
  have s4:=za6 ht (.tup [.str "name",.str (tx nm)])
  exact o1 _ _ (Option.some.inj hg).symm t _ (R2.same s4) za2 (b1.trans (b2.trans (But1.of s4)))
theorem scRdO:FnScope ["self","tree"] ps1 (zb2 zx7):=⟨rfl,rfl,rfl,by decide +kernel,rfl,by decide +kernel,by decide +kernel⟩
theorem ok_rdOpnd{L:Nat}{fN fNa fU fP fE fL fS:Addr}{nD naD uD pD eD lD sD:FuncData}(F:Fun K "operand" "Reader.operand" zx7 f fd)(T:Rdr K mg C)(Z:RKit P w K mg base C CX Eb)(B:MO P w K mg base C CX0 3 fN nD "is_next" ps2 (zo0 K C))
  (NA:MO P w K mg base C CX (6*L+13) fNa naD "name_or_call" ps1 (rdName C Eb (L+1))) (NU:MO P w K mg base C CX 7 fU uD "number" ps1 (rdNum C)) (PA':MO P w K mg base C CX (6*L+12) fP pD "parts" ["self","opening","closing"] (zy4 C Eb (L+1)))
  (EN:MO P w K mg base C CX 7 fE eD "enter" zq8 (zy5 K C Eb)) (LV:MO P w K mg base C CX 7 fL lD "leave" zq8 (zs7 K C Eb))
  (S:MO P w K mg base C CX (6*L+10) fS sD "sum_tree" ps1 (zj6 C Eb .sum L)):FnOk P w K mg base CX (6*L+14) f fd ps1 (zj6 C Eb .opnd (L+1)):=by
 refine F.okGq (k:=6*L+13) scRdO (fun vs H Q E h=>?_) (fun cdv A0 outer s0 H vs Q E hr h=>?_)
 ·obtain⟨p,s,i,d,n,r,rfl,_⟩:=h
  rfl
 obtain⟨p,s,i,d,n,r,rfl,R,hz,hd,hL,hg,o1,o2⟩:=h
 obtain⟨dx,hp⟩:=id R
 obtain⟨ul,hul,rul⟩:=T.letters
 obtain⟨uf,huf,ruf⟩:=T.figures
 have nd:=scRdO.nd
 have hr3:Room 3 _:=hr.mono (by omega)
 have hr7:Room 7 _:=hr.mono (by omega)
 refine⟨_,za0 (ze9 (zd1 (zc1 (pvq 0) T.cl B.m B.ok hr3 B.b .nil zd2 (za4 (zg6 rfl hul rul) za1))) (za7 (zc0 (ze6 (pvq 0) T.cl NA.m NA.ok hr NA.b .nil Z.pass))) zc9)<|
  za0 (ze9 (zd1 (zc1 (pvq 0) T.cl B.m B.ok hr3 B.b .nil zd2 (za4 (zg6 rfl huf ruf) za1))) (za7 (zc0 (ze5 (za3 za8 (zf4 (ze6 (pvq 0) T.cl NU.m NU.ok hr7 NU.b .nil Z.pass) za1))))) zc9)<|
  za0 (ze9 (zd1 (zc1 (pvq 0) T.cl B.m B.ok hr3 B.b .nil zd2 (za3 za8 za1))) (za7 (zc0 (ze5 (za3 za8 (zf4 (zc1 (pvq 0) T.cl PA'.m PA'.ok (hr.mono (by omega)) PA'.b .nil Z.pass (za3 za8 (za3 za8 za1))) za1))))) zc9)<|
  za0 (zd5 (zc1 (pvq 0) T.cl EN.m EN.ok hr7 EN.b .nil Z.pass (za3 za8 za1)))<|
  za0 (zb1 (i:=1) nd rfl (Or.inl rfl) (ze6 (pvq 0) T.cl S.m S.ok (hr.mono (by omega)) S.b .nil Z.pass))<|
  za0 (zd5 (zc1 (pvq 0) T.cl LV.m LV.ok hr7 LV.b .nil Z.pass (za3 za8 za1)))<|
  za7 (zc0 (pvq 1)),?_⟩
 cases n with
 |zero=>cases hg
 |succ n=>
 have hg:zi7 (go s n) s d (zb4 s i)=some r:=hg
 unfold zi7 at hg
 refine⟨_,rfl,p,dx,_,rfl,hp,zd9 _ _ _ (by decide +kernel) (by decide +kernel) (by decide +kernel),p,_,zb0,s,i,d,rfl,.inl rfl,R,by omega,fun H1 R1 b1=>⟨_,rfl,?_⟩⟩
 obtain⟨dx1,hp1⟩:=id R1
 have ek:zb4 s (zb4 s i)=zb4 s i:=zc8 s i
 generalize zb4 s i=k at hg R1 hp1 ek
 cases c1:atP (inL zb0) s k with
 |true=>
  rw[if_pos c1] at hg
  exact zj4 ⟨_,rfl,p,dx1,_,rfl,hp1,zd9 _ _ _ (by decide +kernel) (by decide +kernel) (by decide +kernel),p,s,k,d,n,r,rfl,R1,hz,hd,hL,c1,hg,fun t j er a H2 R2 t2 b2=>o1 t j er a H2 R2 t2 (b1.trans b2),fun q er H2 b2=>o2 q er H2 (b1.trans b2)⟩
 |false=>
 rw[if_neg (by rw[c1];decide)] at hg
 refine zk5 ⟨_,rfl,p,dx1,_,rfl,hp1,zd9 _ _ _ (by decide +kernel) (by decide +kernel) (by decide +kernel),p,_,figuresL,s,k,d,rfl,.inl rfl,R1,by omega,fun H2 R2 b2=>⟨_,rfl,?_⟩⟩
 rw[ek] at R2 ⊢
 obtain⟨dx2,hp2⟩:=id R2
 cases c2:atP (inL figuresL) s k with
 |true=>
  rw[if_pos c2] at hg
  have hk:=zd8 c2
  refine zj4 ⟨_,rfl,p,dx2,_,rfl,hp2,zd9 _ _ _ (by decide +kernel) (by decide +kernel) (by decide +kernel),p,s,k,d,rfl,R2,by omega,by omega,fun H3 R3 b3=>⟨(by show 2≤sizeLine;decide),fun t ht=>?_⟩⟩
  have s4:=za6 ht (.tup [.str "number",.int ((numV s k:Nat):Int)])
  exact o1 _ _ (Option.some.inj hg).symm t _ (R3.same s4) za2 (b1.trans (b2.trans (b3.trans (But1.of s4))))
 |false=>
 rw[if_neg (by rw[c2];decide)] at hg
 refine zk5 ⟨_,rfl,p,dx2,_,rfl,hp2,zd9 _ _ _ (by decide +kernel) (by decide +kernel) (by decide +kernel),p,_,[91],s,k,d,rfl,.inl (by rw[lb_tx]),R2,by omega,fun H3 R3 b3=>⟨_,rfl,?_⟩⟩
 rw[ek] at R3 ⊢
 obtain⟨dx3,hp3⟩:=id R3
 cases c3:atP (inL [91]) s k with
 |true=>
  rw[if_pos c3] at hg
  have pr:∃r1,go s n (.parts 93) d k=some r1∧zi8 (some r1) (fun ts j=>some (.tree (.row ts) j))=some r:=by
   rcases zg3 hg with⟨t,j,e1,e2⟩|⟨q,e1,e2⟩
   ·exact⟨_,e1,e2⟩
   ·exact⟨_,e1,by rw[e2];rfl⟩
  obtain⟨r1,hg1,hr1⟩:=pr
  refine zj4 ⟨_,rfl,p,dx3,_,rfl,hp3,zd9 _ _ _ (by decide +kernel) (by decide +kernel) (by decide +kernel),?_⟩
  refine⟨p,s,k,d,n,91,93,r1,by rw[lb_tx,rb_tx];rfl,R3,hz,hd,hL,c3,rfl,hg1,fun ts j er l as H4 R4 hl4 ht4 b4=>?_,fun q er H4 b4=>?_⟩
  ·subst er
   refine⟨(by show 2≤sizeLine;decide),fun t ht=>?_⟩
   have s5:=za6 ht (.tup [.str "row",.ref l])
   exact o1 _ _ (Option.some.inj hr1).symm t _ (R4.same s5) ⟨l,as,za2,s5 _ _ hl4,TreesAt.mono (.of s5) ht4⟩ (b1.trans (b2.trans (b3.trans (b4.trans (But1.of s5)))))
  ·subst er
   exact o2 q (Option.some.inj hr1).symm H4 (b1.trans (b2.trans (b3.trans b4)))
 |false=>
 rw[if_neg (by rw[c3];decide)] at hg
 refine zk5 ⟨_,rfl,p,dx3,_,rfl,hp3,zd9 _ _ _ (by decide +kernel) (by decide +kernel) (by decide +kernel),p,_,[40],s,k,d,rfl,.inl (by rw[lp_tx]),R3,by omega,?_,?_⟩
 case refine_2=>
  intro z H4 b4
  rw[ek] at z ⊢
  have b5:=b1.trans (b2.trans (b3.trans b4))
  cases c4:atP (inL [40]) s k with
  |false=>
   rw[if_neg (by rw[c4];decide)] at hg
   exact o2 k (Option.some.inj hg).symm H4 b5
  |true=>
   rw[if_pos c4] at hg
   rcases z with z|z
   ·rw[c4] at z;cases z
   ·rw[if_pos z] at hg
    exact o2 k (Option.some.inj hg).symm H4 b5
 intro c4 hd20 H4 R4 b4
 rw[ek] at R4 c4
 rw[if_pos c4,if_neg hd20] at hg
 obtain⟨dx4,hp4⟩:=id R4
 have sumr:∃r1,go s n .sum (d+1) (k+1)=some r1∧zd0 (some r1) (fun t j=>if atP (inL [41]) s (zb4 s j)=true then some (.tree t (zb4 s j+1)) else some (.bad (zb4 s j)))=some r:=by
  rcases zb9 hg with⟨t,j,e1,e2⟩|⟨q,e1,e2⟩
  ·exact⟨_,e1,e2⟩
  ·exact⟨_,e1,by rw[e2];rfl⟩
 obtain⟨r1,hg1,hr1⟩:=sumr
 have b14:=b1.trans (b2.trans (b3.trans b4))
 refine⟨_,rfl,p,dx4,_,rfl,hp4,zd9 _ _ _ (by decide +kernel) (by decide +kernel) (by decide +kernel),p,s,k+1,d+1,n,r1,rfl,R4,hz,by omega,by omega,hg1,fun t j er a H5 R5 t5 b5=>?_,fun q er H5 b5=>?_⟩
 ·subst er
  have hr1:(if atP (inL [41]) s (zb4 s j)=true then some (Res.tree t (zb4 s j+1)) else some (.bad (zb4 s j)))=some r:=hr1
  obtain⟨dx5,hp5⟩:=id R5
  refine⟨_,rfl,p,dx5,_,rfl,hp5,zd9 _ _ _ (by decide +kernel) (by decide +kernel) (by decide +kernel),p,_,[41],s,j,d,rfl,.inl (by rw[rp_tx]),R5,by omega,fun c5 H6 R6 b6=>⟨_,rfl,?_⟩,fun c5 H6 b6=>?_⟩
  ·rw[if_pos c5] at hr1
   exact o1 _ _ (Option.some.inj hr1).symm a H6 R6 (t5.mono (R5.tups b6)) (b14.trans (b5.trans b6))
  ·rw[if_neg (by rw[c5];decide)] at hr1
   exact o2 _ (Option.some.inj hr1).symm H6 (b14.trans (b5.trans b6))
 ·subst er
  exact o2 q (Option.some.inj hr1).symm H5 (b14.trans b5)
theorem scRdProd:FnScope ["self","tree","sign"] ps1 (zb2 zx5):=⟨rfl,rfl,rfl,by decide +kernel,rfl,by decide +kernel,by decide +kernel⟩
theorem ok_rdProd {L : Nat} {fN fT fO : Addr} {nD tD oD : FuncData} (F : Fun K "product_tree" "Reader.product_tree" zx5 f fd) (T : Rdr K mg C) (Z : RKit P w K mg base C CX Eb) (B : MO P w K mg base C CX0 3 fN nD "is_next" ps2 (zo0 K C))
    (TK : MO P w K mg base C CX 6 fT tD "take" zq8 (zq5 K C Eb)) (O : MO P w K mg base C CX (6 * L + 14) fO oD "operand" ps1 (zj6 C Eb .opnd (L + 1))) : FnOk P w K mg base CX (6 * L + 14 + 1) f fd ps1 (zj6 C Eb .prod (L + 1)) := by
  refine F.okGq (k := 6 * L + 14) scRdProd (fun vs H Q E h => ?_) (fun cdv A0 outer s0 H vs Q E hr h => ?_)
  · obtain ⟨p, s, i, d, n, r, rfl, _⟩ := h
    rfl
  obtain ⟨p, s, i, d, n, r, rfl, R, hz, hd, hL, hg, o1, o2⟩ := h
  obtain ⟨dx, hp⟩ := id R
  obtain ⟨us, vsg, hus, rus, sus⟩ := T.prods
  have nd := scRdProd.nd
  have hr3 : Room 3 _ := hr.mono (by omega)
  have hr6 : Room 6 _ := hr.mono (by omega)
  refine ⟨_, za0 (zb1 (i := 1) nd rfl (Or.inl rfl) (ze6 (pvq 0) T.cl O.m O.ok hr O.b .nil Z.pass)) <|
    za0 (zi4 PassesOwn.leaving (zd1 (zc1 (pvq 0) T.cl B.m B.ok hr3 B.b .nil zd2 (za4 (zg6 rfl hus rus) za1)))
      (za0 (zb1 (i := 2) nd rfl (Or.inl rfl) (zd6 zt5 (zf9 (pvq 0) rfl) (zf9 (pvq 0) rfl) (fun _ _ => rfl))) <|
       za0 (zd5 (zc1 (pvq 0) T.cl TK.m TK.ok hr6 TK.b .nil Z.pass (za4 (pvq 2) za1))) <|
       za7 (zb1 (i := 1) nd rfl (Or.inl rfl) (ze5 (za4 (pvq 2) (za4 (pvq 1) (zf4 (ze6 (pvq 0) T.cl O.m O.ok hr O.b .nil Z.pass) za1))))))) <|
    za7 (zc0 (pvq 1)), ?_⟩
  cases n with
  | zero => cases hg
  | succ n =>
  have hg : zd0 (go s n .opnd d i) (fun t j => go s n (.prodL t) d j) = some r := hg
  have sr : ∃ r1, go s n .opnd d i = some r1 ∧ zd0 (some r1) (fun t j => go s n (.prodL t) d j) = some r := by
    rcases zb9 hg with ⟨t, j, e1, e2⟩ | ⟨q, e1, e2⟩
    · exact ⟨_, e1, e2⟩
    · exact ⟨_, e1, by rw [e2]; rfl⟩
  obtain ⟨r1, hg1, hr1⟩ := sr
  refine ⟨_, rfl, p, dx, _, rfl, hp, zd9 _ _ _ (by decide +kernel) (by decide +kernel) (by decide +kernel), p, s, i, d, n, r1, rfl, R, hz, hd, hL, hg1, fun t j er a H1 R1 t1 b1 => ?_, fun q er H1 b1 => ?_⟩
  case refine_2 =>
    subst er
    exact o2 q (Option.some.inj hr1).symm H1 b1
  subst er
  have hg2 : go s n (.prodL t) d j = some r := hr1
  refine ⟨fun m σ H' => ∃ t a j v, σ = [some (.ref p), some (.ref a), v] ∧ RdAt C H' p s j d ∧ TreeAt H' t a ∧ But1 p H H' ∧ go s m (.prodL t) d j = some r, ⟨n, t, a, j, none, rfl, R1, t1, b1, hg2⟩, ?_⟩
  rintro m σ H' ⟨t, a, j, v, rfl, R', t', b', hgm⟩
  obtain ⟨dx', hp'⟩ := id R'
  refine ⟨_, rfl, p, dx', _, rfl, hp', zd9 _ _ _ (by decide +kernel) (by decide +kernel) (by decide +kernel), p, _, [42], s, j, d, rfl, sus, R', by omega, fun H2 R2 b2 => ⟨_, rfl, ?_⟩⟩
  obtain ⟨dx2, hp2⟩ := id R2
  have t2 := t'.mono (R'.tups b2)
  have ek : zb4 s (zb4 s j) = zb4 s j := zc8 s j
  cases m with
  | zero => cases hgm
  | succ m =>
  have hgm : (if atP (inL [42]) s (zb4 s j) = true then zd0 (go s m .opnd d (zb4 s j + 1)) fun u j' => go s m (.prodL (.bin (s.getD (zb4 s j) 0) t u)) d j' else some (.tree t (zb4 s j))) = some r := hgm
  generalize zb4 s j = k at hgm R2 hp2 ek
  cases c : atP (inL [42]) s k with
  | false =>
    rw [if_neg (by rw [c]; decide)] at hgm
    exact zk5 ⟨_, rfl, o1 t k (Option.some.inj hgm).symm a H2 R2 t2 (b'.trans b2)⟩
  | true =>
    rw [if_pos c] at hgm
    obtain ⟨sg, hk, hsg⟩ := zg2 c
    have hkl := zd8 c
    have egd : s.getD k 0 = sg := by rw [List.getD_eq_getElem?_getD, hk]; rfl
    rw [egd] at hgm
    refine zj4 ⟨fun σ' H'' => ∃ n', n' < m + 1 ∧ ∃ t a j v, σ' = [some (.ref p), some (.ref a), v] ∧ RdAt C H'' p s j d ∧ TreeAt H'' t a ∧ But1 p H H'' ∧ go s n' (.prodL t) d j = some r, fun σ' H'' z => z, ?_⟩
    refine ⟨_, rfl, p, C, dx2, _, _, rfl, hp2, T.cl, T.nT, zp2 _ _ _, _, rfl, p, C, dx2, _, _, rfl, hp2, T.cl, T.nP, zf3 _ _ _, tx s, _, sg, rfl, rfl, zb7 (by rw [ze4]; omega), (by show atI (tx s).cps.toList ((k : Nat) : Int) = _; exact zh2 (by simpa [tx] using hk)), ?_⟩
    have c1 : atP (inL [sg]) s k = true := by rw [zc4 hk]; simp [inL]
    refine ⟨_, rfl, p, dx2, _, rfl, hp2, zd9 _ _ _ (by decide +kernel) (by decide +kernel) (by decide +kernel), _, rfl, p, .str (tx [sg]), [sg], s, k, d, rfl, .inl rfl, R2, by omega, fun _ H3 R3 b3 => ?_, fun z => by rw [ek, c1] at z; cases z⟩
    rw [ek] at R3
    obtain ⟨dx3, hp3⟩ := id R3
    have sr : ∃ r2, go s m .opnd d (k + 1) = some r2 ∧ zd0 (some r2) (fun u j' => go s m (.prodL (.bin sg t u)) d j') = some r := by
      rcases zb9 hgm with ⟨t, j, e1, e2⟩ | ⟨q, e1, e2⟩
      · exact ⟨_, e1, e2⟩
      · exact ⟨_, e1, by rw [e2]; rfl⟩
    obtain ⟨r2, hg3, hr2⟩ := sr
    have b03 := b'.trans (b2.trans b3)
    have t3 := t2.mono (R2.tups b3)
    refine ⟨_, rfl, _, rfl, _, rfl, p, dx3, _, rfl, hp3, zd9 _ _ _ (by decide +kernel) (by decide +kernel) (by decide +kernel), p, s, k + 1, d, m, r2, rfl, R3, hz, hd, hL, hg3, fun u j' er a' H4 R4 u4 b4 => ?_, fun q er H4 b4 => ?_⟩
    · subst er
      refine ⟨(by show 3 ≤ sizeLine; decide), fun tt ht => ?_⟩
      have s5 := za6 ht (.tup [.str (tx [sg]), .ref a, .ref a'])
      exact ⟨m, Nat.lt_succ_self _, .bin sg t u, tt, j', _, rfl, R4.same s5, ⟨a, a', za2, t3.mono ((R3.tups b4).trans (.of s5)), u4.mono (.of s5)⟩, b03.trans (b4.trans (But1.of s5)), hr2⟩
    · subst er
      exact o2 q (Option.some.inj hr2).symm H4 (b03.trans b4)
theorem scRdSum:FnScope ["self","tree","sign"] ps1 (zb2 yh9):=⟨rfl,rfl,rfl,by decide +kernel,rfl,by decide +kernel,by decide +kernel⟩
theorem ok_rdSum {L : Nat} {fN fT fO : Addr} {nD tD oD : FuncData} (F : Fun K "sum_tree" "Reader.sum_tree" yh9 f fd) (T : Rdr K mg C) (Z : RKit P w K mg base C CX Eb) (B : MO P w K mg base C CX0 3 fN nD "is_next" ps2 (zo0 K C))
    (TK : MO P w K mg base C CX 6 fT tD "take" zq8 (zq5 K C Eb)) (O : MO P w K mg base C CX (6 * L + 15) fO oD "product_tree" ps1 (zj6 C Eb .prod (L + 1))) : FnOk P w K mg base CX (6 * L + 15 + 1) f fd ps1 (zj6 C Eb .sum (L + 1)) := by
  refine F.okGq (k := 6 * L + 15) scRdSum (fun vs H Q E h => ?_) (fun cdv A0 outer s0 H vs Q E hr h => ?_)
  · obtain ⟨p, s, i, d, n, r, rfl, _⟩ := h
    rfl
  obtain ⟨p, s, i, d, n, r, rfl, R, hz, hd, hL, hg, o1, o2⟩ := h
  obtain ⟨dx, hp⟩ := id R
  obtain ⟨us, vsg, hus, rus, sus⟩ := T.sums
  have nd := scRdSum.nd
  have hr3 : Room 3 _ := hr.mono (by omega)
  have hr6 : Room 6 _ := hr.mono (by omega)
  refine ⟨_, za0 (zb1 (i := 1) nd rfl (Or.inl rfl) (ze6 (pvq 0) T.cl O.m O.ok hr O.b .nil Z.pass)) <|
    za0 (zi4 PassesOwn.leaving (zd1 (zc1 (pvq 0) T.cl B.m B.ok hr3 B.b .nil zd2 (za4 (zg6 rfl hus rus) za1)))
      (za0 (zb1 (i := 2) nd rfl (Or.inl rfl) (zd6 zt5 (zf9 (pvq 0) rfl) (zf9 (pvq 0) rfl) (fun _ _ => rfl))) <|
       za0 (zd5 (zc1 (pvq 0) T.cl TK.m TK.ok hr6 TK.b .nil Z.pass (za4 (pvq 2) za1))) <|
       za7 (zb1 (i := 1) nd rfl (Or.inl rfl) (ze5 (za4 (pvq 2) (za4 (pvq 1) (zf4 (ze6 (pvq 0) T.cl O.m O.ok hr O.b .nil Z.pass) za1))))))) <|
    za7 (zc0 (pvq 1)), ?_⟩
  cases n with
  | zero => cases hg
  | succ n =>
  have hg : zd0 (go s n .prod d i) (fun t j => go s n (.sumL t) d j) = some r := hg
  have sr : ∃ r1, go s n .prod d i = some r1 ∧ zd0 (some r1) (fun t j => go s n (.sumL t) d j) = some r := by
    rcases zb9 hg with ⟨t, j, e1, e2⟩ | ⟨q, e1, e2⟩
    · exact ⟨_, e1, e2⟩
    · exact ⟨_, e1, by rw [e2]; rfl⟩
  obtain ⟨r1, hg1, hr1⟩ := sr
  refine ⟨_, rfl, p, dx, _, rfl, hp, zd9 _ _ _ (by decide +kernel) (by decide +kernel) (by decide +kernel), p, s, i, d, n, r1, rfl, R, hz, hd, hL, hg1, fun t j er a H1 R1 t1 b1 => ?_, fun q er H1 b1 => ?_⟩
  case refine_2 =>
    subst er
    exact o2 q (Option.some.inj hr1).symm H1 b1
  subst er
  have hg2 : go s n (.sumL t) d j = some r := hr1
  refine ⟨fun m σ H' => ∃ t a j v, σ = [some (.ref p), some (.ref a), v] ∧ RdAt C H' p s j d ∧ TreeAt H' t a ∧ But1 p H H' ∧ go s m (.sumL t) d j = some r, ⟨n, t, a, j, none, rfl, R1, t1, b1, hg2⟩, ?_⟩
  rintro m σ H' ⟨t, a, j, v, rfl, R', t', b', hgm⟩
  obtain ⟨dx', hp'⟩ := id R'
  refine ⟨_, rfl, p, dx', _, rfl, hp', zd9 _ _ _ (by decide +kernel) (by decide +kernel) (by decide +kernel), p, _, [43, 45], s, j, d, rfl, sus, R', by omega, fun H2 R2 b2 => ⟨_, rfl, ?_⟩⟩
  obtain ⟨dx2, hp2⟩ := id R2
  have t2 := t'.mono (R'.tups b2)
  have ek : zb4 s (zb4 s j) = zb4 s j := zc8 s j
  cases m with
  | zero => cases hgm
  | succ m =>
  have hgm : (if atP (inL [43, 45]) s (zb4 s j) = true then zd0 (go s m .prod d (zb4 s j + 1)) fun u j' => go s m (.sumL (.bin (s.getD (zb4 s j) 0) t u)) d j' else some (.tree t (zb4 s j))) = some r := hgm
  generalize zb4 s j = k at hgm R2 hp2 ek
  cases c : atP (inL [43, 45]) s k with
  | false =>
    rw [if_neg (by rw [c]; decide)] at hgm
    exact zk5 ⟨_, rfl, o1 t k (Option.some.inj hgm).symm a H2 R2 t2 (b'.trans b2)⟩
  | true =>
    rw [if_pos c] at hgm
    obtain ⟨sg, hk, hsg⟩ := zg2 c
    have hkl := zd8 c
    have egd : s.getD k 0 = sg := by rw [List.getD_eq_getElem?_getD, hk]; rfl
    rw [egd] at hgm
    refine zj4 ⟨fun σ' H'' => ∃ n', n' < m + 1 ∧ ∃ t a j v, σ' = [some (.ref p), some (.ref a), v] ∧ RdAt C H'' p s j d ∧ TreeAt H'' t a ∧ But1 p H H'' ∧ go s n' (.sumL t) d j = some r, fun σ' H'' z => z, ?_⟩
    refine ⟨_, rfl, p, C, dx2, _, _, rfl, hp2, T.cl, T.nT, zp2 _ _ _, _, rfl, p, C, dx2, _, _, rfl, hp2, T.cl, T.nP, zf3 _ _ _, tx s, _, sg, rfl, rfl, zb7 (by rw [ze4]; omega), (by show atI (tx s).cps.toList ((k : Nat) : Int) = _; exact zh2 (by simpa [tx] using hk)), ?_⟩
    have c1 : atP (inL [sg]) s k = true := by rw [zc4 hk]; simp [inL]
    refine ⟨_, rfl, p, dx2, _, rfl, hp2, zd9 _ _ _ (by decide +kernel) (by decide +kernel) (by decide +kernel), _, rfl, p, .str (tx [sg]), [sg], s, k, d, rfl, .inl rfl, R2, by omega, fun _ H3 R3 b3 => ?_, fun z => by rw [ek, c1] at z; cases z⟩
    rw [ek] at R3
    obtain ⟨dx3, hp3⟩ := id R3
    have sr : ∃ r2, go s m .prod d (k + 1) = some r2 ∧ zd0 (some r2) (fun u j' => go s m (.sumL (.bin sg t u)) d j') = some r := by
      rcases zb9 hgm with ⟨t, j, e1, e2⟩ | ⟨q, e1, e2⟩
      · exact ⟨_, e1, e2⟩
      · exact ⟨_, e1, by rw [e2]; rfl⟩
    obtain ⟨r2, hg3, hr2⟩ := sr
    have b03 := b'.trans (b2.trans b3)
    have t3 := t2.mono (R2.tups b3)
    refine ⟨_, rfl, _, rfl, _, rfl, p, dx3, _, rfl, hp3, zd9 _ _ _ (by decide +kernel) (by decide +kernel) (by decide +kernel), p, s, k + 1, d, m, r2, rfl, R3, hz, hd, hL, hg3, fun u j' er a' H4 R4 u4 b4 => ?_, fun q er H4 b4 => ?_⟩
    · subst er
      refine ⟨(by show 3 ≤ sizeLine; decide), fun tt ht => ?_⟩
      have s5 := za6 ht (.tup [.str (tx [sg]), .ref a, .ref a'])
      exact ⟨m, Nat.lt_succ_self _, .bin sg t u, tt, j', _, rfl, R4.same s5, ⟨a, a', za2, t3.mono ((R3.tups b4).trans (.of s5)), u4.mono (.of s5)⟩, b03.trans (b4.trans (But1.of s5)), hr2⟩
    · subst er
      exact o2 q (Option.some.inj hr2).symm H4 (b03.trans b4)
end
end Pq
namespace Pq
open PySem L2
def yf1(C:Addr)(Eb:XK→Nat→Hp→Prop):Sp:=fun vs H Q E=>∃(p:Addr) (s:List Nat) (n:Nat) (r:Res),vs=[.ref p]∧RdAt C H p s 0 0∧s.length≤100000∧zw7 s n=some r∧
 (∀t j,r=.tree t j→∀a H',TreeAt H' t a→But1 p H H'→Q (.ref a) H')∧(∀q,r=.bad q→∀H',But1 p H H'→Eb E q H')
def spRead(Eb:XK→Nat→Hp→Prop):Sp:=fun vs H Q E=>∃(s:List Nat) (n:Nat) (r:Res),vs=[.str (tx s)]∧s.length≤100000∧zw7 s n=some r∧
 (∀t j,r=.tree t j→∀a H',TreeAt H' t a→Same H H'→Q (.ref a) H')∧(∀q,r=.bad q→∀H',Same H H'→Eb E q H')
structure RdF where
 (i a p n t r e l w s pr o nc nu ps:Addr)
structure RdD where
 (i a p n t r e l w s pr o nc nu ps:FuncData)
structure RdFs(K:PySem.W.Frag)(C:Addr)(f:RdF)(g:RdD):Prop where
 fa:Fun K "is_at" "Reader.is_at" sRdAt f.a g.a
 fp:Fun K "pass_blanks" "Reader.pass_blanks" zx6 f.p g.p
 fn:Fun K "is_next" "Reader.is_next" zx8 f.n g.n
 ft:Fun K "take" "Reader.take" zx4 f.t g.t
 fr:Fun K "take_run" "Reader.take_run" yi0 f.r g.r
 fe:Fun K "enter" "Reader.enter" zr3 f.e g.e
 fl:Fun K "leave" "Reader.leave" zr2 f.l g.l
 fw:Fun K "whole" "Reader.whole" zr0 f.w g.w
 fs:Fun K "sum_tree" "Reader.sum_tree" yh9 f.s g.s
 fpr:Fun K "product_tree" "Reader.product_tree" zx5 f.pr g.pr
 fo:Fun K "operand" "Reader.operand" zx7 f.o g.o
 fnc:Fun K "name_or_call" "Reader.name_or_call" zx9 f.nc g.nc
 fnu:Fun K "number" "Reader.number" yi1 f.nu g.nu
 fps:Fun K "parts" "Reader.parts" zr1 f.ps g.ps
 ma:Meth K C "is_at" f.a
 mp:Meth K C "pass_blanks" f.p
 mn:Meth K C "is_next" f.n
 mt:Meth K C "take" f.t
 mr:Meth K C "take_run" f.r
 me:Meth K C "enter" f.e
 ml:Meth K C "leave" f.l
 mw:Meth K C "whole" f.w
 ms:Meth K C "sum_tree" f.s
 mpr:Meth K C "product_tree" f.pr
 mo:Meth K C "operand" f.o
 mnc:Meth K C "name_or_call" f.nc
 mnu:Meth K C "number" f.nu
 mps:Meth K C "parts" f.ps
section
variable {P:Program}{w:World}{K:PySem.W.Frag}{mg:Str→Option Value}{base:Heap}{f:Addr}{fd:FuncData}{C:Addr}{CX:CXT}{Eb:XK→Nat→Hp→Prop}
theorem scRdW:FnScope ["self","tree"] ps1 (zb2 zr0):=⟨rfl,rfl,rfl,by decide +kernel,rfl,by decide +kernel,by decide +kernel⟩
theorem yl9{fP fS:Addr}{pD sD:FuncData}(F:Fun K "whole" "Reader.whole" zr0 f fd)(T:Rdr K mg C)(Z:RKit P w K mg base C CX Eb)(B:MO P w K mg base C CX0 2 fP pD "pass_blanks" ps1 (yb3 C))
  (S:MO P w K mg base C CX 136 fS sD "sum_tree" ps1 (zj6 C Eb .sum 21)):FnOk P w K mg base CX 137 f fd ps1 (yf1 C Eb):=by
 refine F.okGq scRdW (fun vs H Q E h=>?_) (fun cdv A0 outer s0 H vs Q E hr h=>?_)
 ·obtain⟨p,s,n,r,rfl,_⟩:=h
  rfl
 obtain⟨p,s,n,r,rfl,R,hz,hg,o1,o2⟩:=h
 obtain⟨dx,hp⟩:=id R
 have nd:=scRdW.nd
 refine⟨_,za0 (zb1 (i:=1) nd rfl (Or.inl rfl) (ze6 (pvq 0) T.cl S.m S.ok hr S.b .nil Z.pass))<|
  za0 (zd5 (ze6 (pvq 0) T.cl B.m B.ok (hr.mono (by decide)) B.b .nil zd2))<|
  za0 (ze9 (zc5 yc2 (zf9 (pvq 0) rfl) (zd7 zg4 rfl T.len PySem.boot_len (zr6 (zf9 (pvq 0) rfl) za1)) (ze1 _)) (za7 (Z.raise rfl (Or.inl rfl) rfl (hr.mono (by decide)))) zc9)<|
  za7 (zc0 (pvq 1)),?_⟩
 have sr:∃r1,go s n .sum 0 0=some r1∧zd0 (some r1) (fun t j=>if zb4 s j<s.length then some (.bad (zb4 s j)) else some (.tree t (zb4 s j)))=some r:=by
  rcases zb9 hg with⟨t,j,e1,e2⟩|⟨q,e1,e2⟩
  ·exact⟨_,e1,e2⟩
  ·exact⟨_,e1,by rw[e2];rfl⟩
 obtain⟨r1,hg1,hr1⟩:=sr
 refine⟨_,rfl,p,dx,_,rfl,hp,zd9 _ _ _ (by decide +kernel) (by decide +kernel) (by decide +kernel),p,s,0,0,n,r1,rfl,R,hz,by decide,by decide,hg1,fun t j er a H1 R1 t1 b1=>?_,fun q er H1 b1=>?_⟩
 case refine_2=>
  subst er
  exact o2 q (Option.some.inj hr1).symm H1 b1
 subst er
 have hr1:(if zb4 s j<s.length then some (Res.bad (zb4 s j)) else some (.tree t (zb4 s j)))=some r:=hr1
 obtain⟨dx1,hp1⟩:=id R1
 refine⟨_,rfl,p,dx1,_,rfl,hp1,zd9 _ _ _ (by decide +kernel) (by decide +kernel) (by decide +kernel),p,s,j,0,rfl,R1,by omega,fun H2 R2 b2=>?_⟩
 obtain⟨dx2,hp2⟩:=id R2
 refine⟨_,rfl,p,C,dx2,_,_,rfl,hp2,T.cl,T.nP,zf3 _ _ _,_,rfl,p,C,dx2,_,_,rfl,hp2,T.cl,T.nT,zp2 _ _ _,_,rfl,zb7 (by rw[ze4];omega),_,_,rfl,rfl,_,rfl,?_⟩
 rw[ze4]
 refine ite2 (fun c=>?_) (fun c=>?_)
 ·have c':zb4 s j<s.length:=by have:=of_decide_eq_true c;omega
  rw[if_pos c'] at hr1
  exact⟨p,dx2,_,zb4 s j,rfl,hp2,zf3 _ _ _,o2 _ (Option.some.inj hr1).symm H2 (b1.trans b2)⟩
 ·have c':¬zb4 s j<s.length:=fun z=>c (decide_eq_true (by omega))
  rw[if_neg c'] at hr1
  exact⟨_,rfl,o1 t _ (Option.some.inj hr1).symm a H2 (t1.mono (R1.tups b2)) (b1.trans b2)⟩
theorem scRead:FnScope ["text"] ["text"] (zb2 sRead):=⟨rfl,rfl,rfl,by decide +kernel,rfl,by decide +kernel,by decide +kernel⟩
theorem ok_read{fI fW:Addr}{iD wD:FuncData}(F:Fun K "read" "read" sRead f fd)(T:Rdr K mg C)(Z:RKit P w K mg base C CX Eb)(M:Mk K C fI)(mR:mg "Reader"=some (.ref C))(GI:FnOk P w K mg base CX0 1 fI iD ["self","text"] (rdInit C))(bI:Binds K iD ["self","text"] [])
  (WH:MO P w K mg base C CX 137 fW wD "whole" ps1 (yf1 C Eb)):FnOk P w K mg base CX 138 f fd ["text"] (spRead Eb):=by
 refine F.okGq scRead (fun vs H Q E h=>?_) (fun cdv A0 outer s0 H vs Q E hr h=>?_)
 ·obtain⟨s,n,r,rfl,_⟩:=h
  rfl
 obtain⟨s,n,r,rfl,hz,hg,o1,o2⟩:=h
 refine⟨_,za7 (zc0 (ze6 (pe_makeq M GI (hr.mono (by decide)) rfl mR bI .nil zd2 (za4 (pvq 0) za1)) T.cl WH.m WH.ok hr WH.b .nil Z.pass)),?_⟩
 refine⟨_,rfl,fun x dx nx ndx nex=>?_⟩
 refine⟨x,dx,s,rfl,za2,fun H1 R1 b1=>⟨rfl,?_⟩⟩
 have s0:Same H (upd (upd H dx (.own x)) x (.ins C dx [])):=fun b o e=>by
  rw[zb8 (zb6 e nx),zb8 (zb6 e ndx)]
  exact e
 have s1:Same H H1:=fun b o e=>b1 b o (s0 b o e) (zb6 e nx)
 obtain⟨dx1,hp1⟩:=id R1
 exact⟨x,dx1,_,rfl,hp1,zd9 _ _ _ (by decide +kernel) (by decide +kernel) (by decide +kernel),x,s,n,r,rfl,R1,hz,hg,fun t j er a H2 t2 b2=>o1 t j er a H2 t2 (fun b o e=>b2 b o (s1 b o e) (zb6 e nx)),fun q er H2 b2=>o2 q er H2 (fun b o e=>b2 b o (s1 b o e) (zb6 e nx))⟩
theorem rd_all{rf':RdF}{rd:RdD}(G:RdFs K C rf' rd)(T:Rdr K mg C)(Z:RKit P w K mg base C CX Eb):∀L,FnOk P w K mg base CX (6*L+10) rf'.s rd.s ps1 (zj6 C Eb .sum L)
 |0=>fn_no fun vs H Q E h=>by
  obtain⟨p,s,i,d,n,r,_,_,_,h1,h2,_⟩:=h
  omega
 |L+1=>by
  have b1:∀ {x qual:Str} {st:Stmt} {f:Addr} {fd:FuncData},True:=trivial
  have A:MO P w K mg base C CX0 1 rf'.a rd.a "is_at" ps2 (rdAt K C):=⟨ok_rdAt G.fa T,G.fa.binds (ps:=ps2) fun _ _ _ _ _ _ us hl=>match us,hl with|[_,_],_=>rfl,G.ma⟩
  have B:MO P w K mg base C CX0 2 rf'.p rd.p "pass_blanks" ps1 (yb3 C):=⟨yc3 G.fp T A,G.fp.binds (ps:=ps1) fun _ _ _ _ _ _ us hl=>match us,hl with|[_],_=>rfl,G.mp⟩
  have N:MO P w K mg base C CX0 3 rf'.n rd.n "is_next" ps2 (zo0 K C):=⟨ok_rdNext G.fn T A B,G.fn.binds (ps:=ps2) fun _ _ _ _ _ _ us hl=>match us,hl with|[_,_],_=>rfl,G.mn⟩
  have TK:MO P w K mg base C CX 6 rf'.t rd.t "take" zq8 (zq5 K C Eb):=⟨ok_rdTake G.ft T Z N,G.ft.binds (ps:=zq8) fun _ _ _ _ _ _ us hl=>match us,hl with|[_,_],_=>rfl,G.mt⟩
  have RN:MO P w K mg base C CX0 2 rf'.r rd.r "take_run" ps2 (rdRun K C):=⟨ok_rdRun G.fr T A,G.fr.binds (ps:=ps2) fun _ _ _ _ _ _ us hl=>match us,hl with|[_,_],_=>rfl,G.mr⟩
  have EN:MO P w K mg base C CX 7 rf'.e rd.e "enter" zq8 (zy5 K C Eb):=⟨ym2 G.fe T Z N TK,G.fe.binds (ps:=zq8) fun _ _ _ _ _ _ us hl=>match us,hl with|[_,_],_=>rfl,G.me⟩
  have LV:MO P w K mg base C CX 7 rf'.l rd.l "leave" zq8 (zs7 K C Eb):=⟨ym1 G.fl T Z TK,G.fl.binds (ps:=zq8) fun _ _ _ _ _ _ us hl=>match us,hl with|[_,_],_=>rfl,G.ml⟩
  have NU:MO P w K mg base C CX 7 rf'.nu rd.nu "number" ps1 (rdNum C):=⟨ok_rdNum G.fnu T Z A TK RN,G.fnu.binds (ps:=ps1) fun _ _ _ _ _ _ us hl=>match us,hl with|[_],_=>rfl,G.mnu⟩
  have S:MO P w K mg base C CX (6*L+10) rf'.s rd.s "sum_tree" ps1 (zj6 C Eb .sum L):=⟨rd_all G T Z L,G.fs.binds (ps:=ps1) fun _ _ _ _ _ _ us hl=>match us,hl with|[_],_=>rfl,G.ms⟩
  have PS':MO P w K mg base C CX (6*L+12) rf'.ps rd.ps "parts" ["self","opening","closing"] (zy4 C Eb (L+1)):=⟨ym0 G.fps T Z N TK EN LV S,G.fps.binds (ps:=["self","opening","closing"]) fun _ _ _ _ _ _ us hl=>match us,hl with|[_,_,_],_=>rfl,G.mps⟩
  have NC:MO P w K mg base C CX (6*L+13) rf'.nc rd.nc "name_or_call" ps1 (rdName C Eb (L+1)):=⟨ok_rdName G.fnc T Z N RN PS',G.fnc.binds (ps:=ps1) fun _ _ _ _ _ _ us hl=>match us,hl with|[_],_=>rfl,G.mnc⟩
  have O:MO P w K mg base C CX (6*L+14) rf'.o rd.o "operand" ps1 (zj6 C Eb .opnd (L+1)):=⟨ok_rdOpnd G.fo T Z N NC NU PS' EN LV S,G.fo.binds (ps:=ps1) fun _ _ _ _ _ _ us hl=>match us,hl with|[_],_=>rfl,G.mo⟩
  have PR:MO P w K mg base C CX (6*L+15) rf'.pr rd.pr "product_tree" ps1 (zj6 C Eb .prod (L+1)):=⟨ok_rdProd G.fpr T Z N TK O,G.fpr.binds (ps:=ps1) fun _ _ _ _ _ _ us hl=>match us,hl with|[_],_=>rfl,G.mpr⟩
  exact(ok_rdSum G.fs T Z N TK PR).mono (by omega)
theorem rd_read{rf':RdF}{rd:RdD}{fI:Addr}{iD:FuncData}(F:Fun K "read" "read" sRead f fd)(FI:Fun K "__init__" "Reader.__init__" zy0 fI iD)(G:RdFs K C rf' rd)(T:Rdr K mg C)(Z:RKit P w K mg base C CX Eb)(M:Mk K C fI)(mR:mg "Reader"=some (.ref C)):
  FnOk P w K mg base CX 138 f fd ["text"] (spRead Eb):=by
 have A:MO P w K mg base C CX0 1 rf'.a rd.a "is_at" ps2 (rdAt K C):=⟨ok_rdAt G.fa T,G.fa.binds (ps:=ps2) fun _ _ _ _ _ _ us hl=>match us,hl with|[_,_],_=>rfl,G.ma⟩
 have B:MO P w K mg base C CX0 2 rf'.p rd.p "pass_blanks" ps1 (yb3 C):=⟨yc3 G.fp T A,G.fp.binds (ps:=ps1) fun _ _ _ _ _ _ us hl=>match us,hl with|[_],_=>rfl,G.mp⟩
 have S:MO P w K mg base C CX 136 rf'.s rd.s "sum_tree" ps1 (zj6 C Eb .sum 21):=⟨rd_all G T Z 21,G.fs.binds (ps:=ps1) fun _ _ _ _ _ _ us hl=>match us,hl with|[_],_=>rfl,G.ms⟩
 have WH:MO P w K mg base C CX 137 rf'.w rd.w "whole" ps1 (yf1 C Eb):=⟨yl9 G.fw T Z B S,G.fw.binds (ps:=ps1) fun _ _ _ _ _ _ us hl=>match us,hl with|[_],_=>rfl,G.mw⟩
 exact ok_read F T Z M mR (ok_rdInit FI T) (FI.binds (ps:=["self","text"]) fun _ _ _ _ _ _ us hl=>match us,hl with|[_,_],_=>rfl) WH
end
end Pq
namespace Pq
def zf8(c:Nat):Nat:=if c=40 then 41 else 93
def zf1(c:Nat)(w n:Bool):Bool:=(decide (c=40)&&(w||n))||(decide (c=91)&&w)
def zg1(c:Nat)(st:List (Nat×Bool))(w f:Bool):Bool:=match st with
 |[]=>false
 |(k,_)::_=>decide (c=k)&&(!w||f)
def zv3(st:List (Nat×Bool)):Bool:=match st with
 |[]=>false
 |(_,b)::_=>b
def zm2(c:Nat)(w:Bool):Bool:=decide (c=91) || !w
theorem yb2{f:Nat→Bool}{s:List Nat}{i:Nat}(h:atP f s i=true):i<zc6 f s i:=by
 rw[←zu9 h];exact Nat.lt_of_lt_of_le (Nat.lt_succ_self i) yi3
theorem numJ_gt{s:List Nat}{i:Nat}(h:atP (inL figuresL) s i=true):i<yf9 s i:=by
 unfold yf9
 split
 ·omega
 ·exact yb2 h
theorem atP_at{f:Nat→Bool}{s:List Nat}{i:Nat}(h:i<s.length):atP f s i=f s[i]:=zc4 (List.getElem?_eq_getElem h)
def zj3(s:List Nat)(i:Nat)(st:List (Nat×Bool))(w f n:Bool):Option Nat:=
 if h:i<s.length then
  if inL blanksL s[i]=true then zj3 s (i+1) st w f n
  else if hl:(w&&inL zb0 s[i])=true then zj3 s (zc6 (inL zb0) s i) st false false true
  else if hg:(w&&inL figuresL s[i])=true then zj3 s (yf9 s i) st false false false
  else if(decide (st.length<20)&&zf1 s[i] w n)=true then zj3 s (i+1) ((zf8 s[i],zm2 s[i] w)::st) true (zm2 s[i] w) false
  else if zg1 s[i] st w f=true then zj3 s (i+1) st.tail false false false
  else if(!w&&(inL [43,45,42] s[i]||(decide (s[i]=44)&&zv3 st)))=true then zj3 s (i+1) st true false false
  else some i
 else if(w || !st.isEmpty)=true then some s.length else none
termination_by s.length - i
decreasing_by
 ·omega
 ·have:=yb2 (s:=s) (i:=i) (f:=inL zb0) (by rw[atP_at h];exact((Bool.and_eq_true _ _).mp hl).2)
  omega
 ·have:=numJ_gt (s:=s) (i:=i) (by rw[atP_at h];exact((Bool.and_eq_true _ _).mp hg).2)
  omega
 ·omega
 ·omega
 ·omega
theorem yg2{s:List Nat}{i:Nat}{st:List (Nat×Bool)}{w f n:Bool}(h:s.length≤i):zj3 s i st w f n=if(w || !st.isEmpty)=true then some s.length else none:=by
 rw[zj3,dif_neg (by omega)]
theorem yg3{s:List Nat}{i:Nat}{st:List (Nat×Bool)}{w f n:Bool}(h:atP (inL blanksL) s i=true):zj3 s i st w f n=zj3 s (i+1) st w f n:=by
 have hi:=zd8 h
 rw[atP_at hi] at h
 rw[zj3,dif_pos hi,if_pos h]
theorem yc5(s:List Nat)(st:List (Nat×Bool))(w f n:Bool):∀(m i:Nat),s.length - i=m→zj3 s i st w f n=zj3 s (zb4 s i) st w f n
 |0,i,h=>by rw[show zb4 s i=i from zi2 (zn8 (by omega))]
 |m+1,i,h=>by
  cases q:atP (inL blanksL) s i with
  |false=>rw[show zb4 s i=i from zi2 q]
  |true=>rw[yg3 q,yc5 s st w f n m (i+1) (by omega),show zb4 s (i+1)=zb4 s i from zu9 q]
theorem yg4{s:List Nat}{i c:Nat}{st:List (Nat×Bool)}{w f n:Bool}(h:s[i]? = some c)(hb:inL blanksL c=false):zj3 s i st w f n=
  if(w&&inL zb0 c)=true then zj3 s (zc6 (inL zb0) s i) st false false true
  else if(w&&inL figuresL c)=true then zj3 s (yf9 s i) st false false false
  else if(decide (st.length<20)&&zf1 c w n)=true then zj3 s (i+1) ((zf8 c,zm2 c w)::st) true (zm2 c w) false
  else if zg1 c st w f=true then zj3 s (i+1) st.tail false false false
  else if(!w&&(inL [43,45,42] c||(decide (c=44)&&zv3 st)))=true then zj3 s (i+1) st true false false
  else some i:=by
 obtain⟨hi,e⟩:=List.getElem?_eq_some_iff.mp h
 rw[zj3,dif_pos hi,if_neg (by rw[e,hb];decide)]
 simp only[e,dite_eq_ite]
theorem zh3{s:List Nat}{i c:Nat}(hs:zb4 s i=i)(h:s[i]? = some c):inL blanksL c=false:=by
 have:=run_at (inL blanksL) s _ i rfl
 rw[show zc6 (inL blanksL) s i=i from hs,zc4 h] at this
 exact this
def okSt(st:List (Nat×Bool)):Prop:=∀p∈st,p.1=41∨p.1=93
theorem zp0{c:Nat}{st:List (Nat×Bool)}{w f:Bool}(ho:okSt st)(h1:c≠41)(h2:c≠93):zg1 c st w f=false:=by
 unfold zg1
 split
 ·rfl
 ·rename_i k b r
  have:=ho (k,b) (List.mem_cons_self ..)
  have hk:c≠k:=by rcases this with z|z<;>(have z':k=_:=z;omega)
  rw[decide_eq_false hk];rfl
def noStar(s:List Nat)(j:Nat):Prop:=zb4 s j=j∧j≤s.length∧atP (inL [42]) s j=false
def noOp(s:List Nat)(j:Nat):Prop:=zb4 s j=j∧j≤s.length∧atP (inL [42]) s j=false∧atP (inL [43,45]) s j=false
theorem in1(c k:Nat):inL [k] c=decide (c=k):=by
 unfold inL
 by_cases h:c=k
 ·subst h;simp
 ·simp[h]
theorem in_ops(c:Nat):inL [43,45,42] c=(inL [43,45] c||inL [42] c):=by
 unfold inL
 simp only[List.contains_cons,List.contains_nil,Bool.or_false,Bool.or_assoc]
theorem stuck{s:List Nat}{j:Nat}{st:List (Nat×Bool)}(h:noOp s j)(h1:∀k b r,st=(k,b)::r→atP (inL [k]) s j=false∧(b=true→atP (inL [44]) s j=false))(h2:st=[]→j<s.length):zj3 s j st false false false=some j:=by
 obtain⟨hs,hj,a1,a2⟩:=h
 by_cases hl:j<s.length
 ·have e:s[j]? = some s[j]:=List.getElem?_eq_getElem hl
  rw[zc4 e] at a1 a2
  rw[yg4 e (zh3 hs e)]
  have z1:(false&&inL zb0 s[j])=false:=rfl
  have z2:(false&&inL figuresL s[j])=false:=rfl
  have z3:zf1 s[j] false false=false:=by unfold zf1;simp
  have z4:zg1 s[j] st false false=false:=by
   unfold zg1
   split
   ·rfl
   ·rename_i k b r
    have:=(h1 k b r rfl).1
    rw[zc4 e,in1] at this
    rw[this];rfl
  have z5:(decide (s[j]=44)&&zv3 st)=false:=by
   unfold zv3
   split
   ·exact Bool.and_false _
   ·rename_i k b r
    cases b with
    |false=>exact Bool.and_false _
    |true=>
     have:=(h1 k true r rfl).2 rfl
     rw[zc4 e,in1] at this
     rw[this];rfl
  rw[z1,z2,z3,z4,in_ops,a1,a2,z5]
  simp
 ·rw[yg2 (by omega)]
  have:st≠[]:=fun z=>hl (h2 z)
  cases st with
  |nil=>exact absurd rfl this
  |cons p r=>simp;omega
theorem m_noname{s:List Nat}{k:Nat}{st:List (Nat×Bool)}(hs:zb4 s k=k)(h:atP (inL [40]) s k=false):zj3 s k st false false true=zj3 s k st false false false:=by
 by_cases hl:k<s.length
 ·have e:s[k]? = some s[k]:=List.getElem?_eq_getElem hl
  rw[zc4 e,in1] at h
  rw[yg4 e (zh3 hs e),yg4 e (zh3 hs e)]
  have z1:zf1 s[k] false true=false:=by unfold zf1;rw[h];simp
  have z2:zf1 s[k] false false=false:=by unfold zf1;simp
  rw[z1,z2]
 ·rw[yg2 (by omega),yg2 (by omega)]
def After(s:List Nat)(st:List (Nat×Bool))(m:Option Nat)(post:Nat→Prop):Res→Prop
 |.tree _ j=>m=zj3 s j st false false false∧post j
 |.trees _ _=>False
 |.bad p=>m=some p
def AfterL(s:List Nat)(st:List (Nat×Bool))(m:Option Nat):Res→Prop
 |.trees _ j=>m=zj3 s j st false false false
 |.tree _ _=>False
 |.bad p=>m=some p
def yn8(s:List Nat)(i:Nat)(st:List (Nat×Bool)):Prop:=∀k b r,st=(k,b)::r→atP (inL [k]) s (zb4 s i)=false
def SimJ(s:List Nat)(n:Nat):Job→Prop
 |.opnd=>∀d i r st f,go s n .opnd d i=some r→okSt st→st.length=d→d≤20→i≤s.length→(f=true→yn8 s i st)→After s st (zj3 s i st true f false) (fun j=>j≤s.length) r
 |.prod=>∀d i r st f,go s n .prod d i=some r→okSt st→st.length=d→d≤20→i≤s.length→(f=true→yn8 s i st)→After s st (zj3 s i st true f false) (noStar s) r
 |.sum=>∀d i r st f,go s n .sum d i=some r→okSt st→st.length=d→d≤20→i≤s.length→(f=true→yn8 s i st)→After s st (zj3 s i st true f false) (noOp s) r
 |.prodL t=>∀d i r st,go s n (.prodL t) d i=some r→okSt st→st.length=d→d≤20→i≤s.length→After s st (zj3 s i st false false false) (noStar s) r
 |.sumL t=>∀d i r st,go s n (.sumL t) d i=some r→okSt st→st.length=d→d≤20→noStar s i→After s st (zj3 s i st false false false) (noOp s) r
 |.parts c=>∀d i r st,c=41∨c=93→go s n (.parts c) d i=some r→okSt st→st.length=d→d<20→i<s.length→AfterL s st (zj3 s (i+1) ((c,true)::st) true true false) r
 |.partsL c ts=>∀d i r st,c=41∨c=93→go s n (.partsL c ts) d i=some r→okSt st→st.length=d→d<20→noOp s i→AfterL s st (zj3 s i ((c,true)::st) false false false) r
theorem After.bind{s:List Nat}{st:List (Nat×Bool)}{m:Option Nat}{p q:Nat→Prop}{x:Option Res}{k:Tr→Nat→Option Res}{r:Res}(h:zd0 x k=some r)(h1:∀y,x=some y→After s st m p y)
  (h2:∀t j y,p j→k t j=some y→After s st (zj3 s j st false false false) q y):After s st m q r:=by
 rcases zb9 h with⟨t,j,e1,e2⟩|⟨b,e1,e2⟩
 ·obtain⟨a1,a2⟩:=h1 _ e1
  rw[a1]
  exact h2 t j r a2 e2
 ·rw[e2]
  exact h1 _ e1
theorem zx3{s:List Nat}{i:Nat}(h:i≤s.length):zb4 s i≤s.length:=zk7 h
theorem okSt.cons{st:List (Nat×Bool)}(h:okSt st){c:Nat}{b:Bool}(hc:c=41∨c=93):okSt ((c,b)::st):=fun p hp=>by
 rcases List.mem_cons.mp hp with z|z
 ·rw[z];exact hc
 ·exact h p z
theorem m_op{s:List Nat}{k c:Nat}{st:List (Nat×Bool)}(e:s[k]? = some c)(hb:inL blanksL c=false)(ho:okSt st)(hc:inL [43,45,42] c=true):zj3 s k st false false false=zj3 s (k+1) st true false false:=by
 have hn:c=43∨c=45∨c=42:=by simpa [inL] using hc
 rw[yg4 e hb,zp0 ho (by omega) (by omega),hc]
 have z:zf1 c false false=false:=by unfold zf1;simp
 rw[z];simp
theorem sim_opnd(s:List Nat)(n:Nat)(hs:SimJ s n .sum)(hp:∀c,SimJ s n (.parts c)):SimJ s (n+1) .opnd:=by
 intro d i r st f h ho hd hle hi hf
 have hk:=zx3 hi
 have ss:=zc8 s i
 unfold go zi7 at h
 rw[yc5 s st true f false _ i rfl]
 have hf':f=true→∀k b r,st=(k,b)::r→atP (inL [k]) s (zb4 s i)=false:=hf
 generalize zb4 s i=k at h hk ss hf'
 have part:∀(c j:Nat) (w nm:Bool) (g:List Tr→Tr),(c=40∨c=91)→s[j]? = some c→inL blanksL c=false→(w&&inL zb0 c)=false→(w&&inL figuresL c)=false→zf1 c w nm=true→zm2 c w=true→(w=true→c=91)→
   zi8 (go s n (.parts (zf8 c)) d j) (fun ts j=>some (.tree (g ts) j))=some r→(∀f',After s st (zj3 s j st w f' nm) (fun j=>j≤s.length) r):=by
  intro c j w nm g hc e hb hl hg hop hfr hw hr f'
  have hjl:j<s.length:=(List.getElem?_eq_some_iff.mp e).1
  rw[yg4 e hb,hl,hg,hop,hfr]
  have hcc:zf8 c=41∨zf8 c=93:=by unfold zf8;split<;>simp
  by_cases h20:d<20
  ·rw[if_neg (by decide),if_neg (by decide),if_pos (by rw[decide_eq_true (by omega)];rfl)]
   rcases zg3 hr with⟨ts,j2,e1,e2⟩|⟨b,e1,e2⟩
   ·have a:=hp (zf8 c) d j _ st hcc e1 ho hd h20 hjl
    have le:=(zz8 (by omega) e1).2 ts j2 rfl
    rw[←Option.some.inj e2]
    exact⟨a,le.2⟩
   ·rw[e2]
    exact hp (zf8 c) d j _ st hcc e1 ho hd h20 hjl
  ·have d20:d=20:=by omega
   rw[if_neg (by decide),if_neg (by decide),if_neg (by rw[decide_eq_false (by omega)];decide),if_neg (by rw[zp0 ho (by omega) (by omega)];decide),if_neg]
   ·cases n with
    |zero=>rcases zg3 hr with⟨ts,j2,e1,e2⟩|⟨b,e1,e2⟩<;>cases e1
    |succ n=>
     unfold go at hr
     rw[if_pos d20] at hr
     rw[←Option.some.inj hr]
     rfl
   ·have:inL [43,45,42] c=false:=by rcases hc with z|z<;>rw[z]<;>decide
    rw[this,decide_eq_false (by omega)]
    cases w<;>simp
 by_cases c1:atP (inL zb0) s k=true
 ·rw[if_pos c1] at h
  obtain⟨c,e,hc⟩:=zg2 c1
  rw[yg4 e (zh3 ss e),if_pos (by rw[hc];rfl)]
  unfold zm0 at h
  have l1:=zu8 (f:=inL zb0) hk
  have l2:=zx3 l1
  have s2:=zc8 s (zc6 (inL zb0) s k)
  rw[yc5 s st false false true _ _ rfl]
  generalize zb4 s (zc6 (inL zb0) s k)=k2 at h l2 s2
  by_cases c2:atP (inL [40]) s k2=true
  ·rw[if_pos c2] at h
   obtain⟨c',e',hc'⟩:=zg2 c2
   rw[in1] at hc'
   have hc40:c'=40:=of_decide_eq_true hc'
   subst hc40
   exact part 40 k2 false true _ (.inl rfl) e' (by decide) (by decide) (by decide) (by decide) (by decide) (fun z=>by cases z) h false
  ·rw[if_neg c2] at h
   rw[←Option.some.inj h]
   exact⟨m_noname s2 (Bool.eq_false_iff.mpr c2),l2⟩
 rw[if_neg c1] at h
 by_cases c2:atP (inL figuresL) s k=true
 ·rw[if_pos c2] at h
  obtain⟨c,e,hc⟩:=zg2 c2
  rw[zc4 e] at c1
  have nj:=yf8 (zd8 c2)
  rw[←Option.some.inj h,yg4 e (zh3 ss e),if_neg (by rw[Bool.eq_false_iff.mpr c1];decide),if_pos (by rw[hc];rfl)]
  exact⟨rfl,nj.2⟩
 rw[if_neg c2] at h
 by_cases c3:atP (inL [91]) s k=true
 ·rw[if_pos c3] at h
  obtain⟨c,e,hc⟩:=zg2 c3
  rw[in1] at hc
  have:c=91:=of_decide_eq_true hc
  subst this
  exact part 91 k true false _ (.inr rfl) e (by decide) (by decide) (by decide) (by decide) (by decide) (fun _=>rfl) h f
 rw[if_neg c3] at h
 by_cases c4:atP (inL [40]) s k=true
 ·rw[if_pos c4] at h
  obtain⟨c,e,hc⟩:=zg2 c4
  rw[in1] at hc
  have:c=40:=of_decide_eq_true hc
  subst this
  have hkl:=zd8 c4
  rw[yg4 e (by decide),if_neg (by decide),if_neg (by decide)]
  by_cases h20:d=20
  ·rw[if_pos h20] at h
   rw[if_neg (by rw[decide_eq_false (by omega)];decide),zp0 ho (by decide) (by decide),←Option.some.inj h]
   rfl
  ·rw[if_neg h20] at h
   rw[if_pos (by rw[decide_eq_true (by omega)];decide)]
   have fr:zm2 40 true=false:=by decide
   rw[fr,show zf8 40=41 from rfl]
   rcases zb9 h with⟨t,j,e1,e2⟩|⟨b,e1,e2⟩
   ·obtain⟨a1,a2⟩:=hs (d+1) (k+1) _ ((41,false)::st) false e1 (ho.cons (.inl rfl)) (by simp[hd]) (by omega) (by omega) (fun z=>by cases z)
    rw[a1]
    have sj:=a2.1
    rw[sj] at e2
    by_cases c5:atP (inL [41]) s j=true
    ·rw[if_pos c5] at e2
     have jl:=zd8 c5
     obtain⟨c',e',hc'⟩:=zg2 c5
     rw[in1] at hc'
     have:c'=41:=of_decide_eq_true hc'
     subst this
     rw[yg4 e' (by decide),←Option.some.inj e2]
     refine⟨?_,by omega⟩
     rw[if_neg (by decide),if_neg (by decide),if_neg (by rw[show zf1 41 false false=false from by decide,Bool.and_false];decide),if_pos (by rfl)]
     rfl
    ·rw[if_neg c5] at e2
     rw[←Option.some.inj e2]
     exact stuck a2 (fun k b r z=>by cases z;exact⟨Bool.eq_false_iff.mpr c5,fun z=>by cases z⟩) (fun z=>by cases z)
   ·have a:=hs (d+1) (k+1) _ ((41,false)::st) false e1 (ho.cons (.inl rfl)) (by simp[hd]) (by omega) (by omega) (fun z=>by cases z)
    rw[e2]
    exact a
 rw[if_neg c4] at h
 rw[←Option.some.inj h]
 show _=some k
 by_cases hl:k<s.length
 ·have e:s[k]? = some s[k]:=List.getElem?_eq_getElem hl
  rw[zc4 e] at c1 c2
  rw[zc4 e,in1] at c3 c4
  rw[yg4 e (zh3 ss e),Bool.eq_false_iff.mpr c1,Bool.eq_false_iff.mpr c2]
  have z1:zf1 s[k] true false=false:=by unfold zf1;rw[Bool.eq_false_iff.mpr c3,Bool.eq_false_iff.mpr c4];rfl
  have z2:zg1 s[k] st true f=false:=by
   unfold zg1
   split
   ·rfl
   ·rename_i kk b r
    cases f with
    |false=>exact Bool.and_false _
    |true=>
     have:=hf' rfl kk b r rfl
     rw[zc4 e,in1] at this
     rw[this];rfl
  rw[z1,z2,Bool.and_false]
  simp
 ·rw[yg2 (by omega)]
  show some s.length=some k
  rw[show k=s.length from by omega]
theorem sim(s:List Nat):∀(n:Nat) (job:Job),SimJ s n job
 |0,.opnd=>fun _ _ _ _ _ h=>by cases h
 |0,.prod=>fun _ _ _ _ _ h=>by cases h
 |0,.sum=>fun _ _ _ _ _ h=>by cases h
 |0,.prodL _=>fun _ _ _ _ h=>by cases h
 |0,.sumL _=>fun _ _ _ _ h=>by cases h
 |0,.parts _=>fun _ _ _ _ _ h=>by cases h
 |0,.partsL _ _=>fun _ _ _ _ _ h=>by cases h
 |n+1,.opnd=>sim_opnd s n (sim s n .sum) fun c=>sim s n (.parts c)
 |n+1,.prod=>fun d i r st f h ho hd hle hi hf=>After.bind h (fun y e=>sim s n .opnd d i y st f e ho hd hle hi hf) fun t j y hj e=>sim s n (.prodL t) d j y st e ho hd hle hj
 |n+1,.sum=>fun d i r st f h ho hd hle hi hf=>After.bind h (fun y e=>sim s n .prod d i y st f e ho hd hle hi hf) fun t j y hj e=>sim s n (.sumL t) d j y st e ho hd hle hj
 |n+1,.prodL t=>by
  intro d i r st h ho hd hle hi
  have hk:=zx3 hi
  have ss:=zc8 s i
  unfold go at h
  rw[yc5 s st false false false _ i rfl]
  generalize zb4 s i=k at h hk ss
  by_cases c:atP (inL [42]) s k=true
  ·rw[if_pos c] at h
   obtain⟨c',e,hc⟩:=zg2 c
   have kl:=zd8 c
   rw[m_op e (zh3 ss e) ho (by rw[in_ops,hc,Bool.or_true])]
   exact After.bind h (fun y e=>sim s n .opnd d (k+1) y st false e ho hd hle (by omega) (fun z=>by cases z)) fun t j y hj e=>sim s n (.prodL _) d j y st e ho hd hle hj
  ·rw[if_neg c] at h
   rw[←Option.some.inj h]
   exact⟨rfl,ss,hk,Bool.eq_false_iff.mpr c⟩
 |n+1,.sumL t=>by
  intro d i r st h ho hd hle hi
  obtain⟨si,il,a1⟩:=hi
  unfold go at h
  rw[si] at h
  by_cases c:atP (inL [43,45]) s i=true
  ·rw[if_pos c] at h
   obtain⟨c',e,hc⟩:=zg2 c
   have kl:=zd8 c
   rw[m_op e (zh3 si e) ho (by rw[in_ops,hc,Bool.true_or])]
   exact After.bind h (fun y e=>sim s n .prod d (i+1) y st false e ho hd hle (by omega) (fun z=>by cases z)) fun t j y hj e=>sim s n (.sumL _) d j y st e ho hd hle hj
  ·rw[if_neg c] at h
   rw[←Option.some.inj h]
   exact⟨rfl,si,il,a1,Bool.eq_false_iff.mpr c⟩
 |n+1,.parts c=>by
  intro d i r st hc h ho hd hle hi
  unfold go at h
  rw[if_neg (by omega)] at h
  have hk:=zx3 (s:=s) (i:=i+1) (by omega)
  have ss:=zc8 s (i+1)
  rw[yc5 s _ true true false _ (i+1) rfl]
  generalize zb4 s (i+1)=k at h hk ss
  by_cases c2:atP (inL [c]) s k=true
  ·rw[if_pos c2] at h
   obtain⟨c',e,hc'⟩:=zg2 c2
   rw[in1] at hc'
   have:c'=c:=of_decide_eq_true hc'
   subst this
   rw[←Option.some.inj h,yg4 e (zh3 ss e)]
   have z1:inL zb0 c'=false:=by rcases hc with z|z<;>rw[z]<;>decide
   have z2:inL figuresL c'=false:=by rcases hc with z|z<;>rw[z]<;>decide
   have z3:zf1 c' true false=false:=by rcases hc with z|z<;>rw[z]<;>decide
   have z4:zg1 c' ((c',true)::st) true true=true:=by unfold zg1;simp
   rw[z1,z2,z3,z4,Bool.and_false]
   show _=_
   simp
  ·rw[if_neg c2] at h
   rcases zb9 h with⟨t,j,e1,e2⟩|⟨b,e1,e2⟩
   ·obtain⟨a1,a2⟩:=sim s n .sum (d+1) k _ ((c,true)::st) true e1 (ho.cons hc) (by simp[hd]) (by omega) hk (fun _ k' b r z=>by cases z;rw[ss];exact Bool.eq_false_iff.mpr c2)
    rw[a1]
    exact sim s n (.partsL c [t]) d j r st hc e2 ho hd hle a2
   ·have a:=sim s n .sum (d+1) k _ ((c,true)::st) true e1 (ho.cons hc) (by simp[hd]) (by omega) hk (fun _ k' b r z=>by cases z;rw[ss];exact Bool.eq_false_iff.mpr c2)
    rw[e2]
    exact a
 |n+1,.partsL c ts=>by
  intro d i r st hc h ho hd hle hi
  obtain⟨si,il,a1,a2⟩:=id hi
  unfold go at h
  rw[si] at h
  have ho':=ho.cons (b:=true) hc
  by_cases c2:atP (inL [44]) s i=true
  ·rw[if_pos c2] at h
   obtain⟨c',e,hc'⟩:=zg2 c2
   have kl:=zd8 c2
   rw[in1] at hc'
   have:c'=44:=of_decide_eq_true hc'
   subst this
   have st1:zj3 s i ((c,true)::st) false false false=zj3 s (i+1) ((c,true)::st) true false false:=by
    rw[yg4 e (by decide),zp0 ho' (by decide) (by decide)]
    rw[if_neg (by decide),if_neg (by decide),if_neg (by rw[show zf1 44 false false=false from by decide,Bool.and_false];decide),if_neg (by decide),if_pos (by rfl)]
   rw[st1]
   rcases zb9 h with⟨t,j,e1,e2⟩|⟨b,e1,e2⟩
   ·obtain⟨b1,b2⟩:=sim s n .sum (d+1) (i+1) _ ((c,true)::st) false e1 ho' (by simp[hd]) (by omega) (by omega) (fun z=>by cases z)
    rw[b1]
    exact sim s n (.partsL c _) d j r st hc e2 ho hd hle b2
   ·have a:=sim s n .sum (d+1) (i+1) _ ((c,true)::st) false e1 ho' (by simp[hd]) (by omega) (by omega) (fun z=>by cases z)
    rw[e2]
    exact a
  ·rw[if_neg c2] at h
   by_cases c3:atP (inL [c]) s i=true
   ·rw[if_pos c3] at h
    obtain⟨c',e,hc'⟩:=zg2 c3
    rw[in1] at hc'
    have:c'=c:=of_decide_eq_true hc'
    subst this
    rw[←Option.some.inj h,yg4 e (zh3 si e)]
    have z3:zf1 c' false false=false:=by unfold zf1;simp
    have z4:zg1 c' ((c',true)::st) false false=true:=by unfold zg1;simp
    rw[z3,z4,Bool.and_false]
    show _=_
    simp
   ·rw[if_neg c3] at h
    rw[←Option.some.inj h]
    exact stuck hi (fun k b r z=>by cases z;exact⟨Bool.eq_false_iff.mpr c3,fun _=>Bool.eq_false_iff.mpr c2⟩) (fun z=>by cases z)
theorem sim_whole{s:List Nat}{n:Nat}{r:Res}(h:zw7 s n=some r):(∀t j,r=.tree t j→zj3 s 0 [] true false false=none)∧(∀p,r=.bad p→zj3 s 0 [] true false false=some p)∧∀ts j,r≠.trees ts j:=by
 rcases zb9 h with⟨t,j,e1,e2⟩|⟨b,e1,e2⟩
 ·obtain⟨a1,a2⟩:=sim s n .sum 0 0 _ [] false e1 (fun p hp=>nomatch hp) rfl (by decide) (Nat.zero_le _) (fun z=>by cases z)
  rw[a2.1] at e2
  by_cases c:j<s.length
  ·rw[if_pos c] at e2
   have e3:=Option.some.inj e2
   refine⟨(fun t' j' z=>by rw[z] at e3;cases e3),fun p z=>?_,(fun ts j' z=>by rw[z] at e3;cases e3)⟩
   rw[z] at e3
   cases e3
   rw[a1]
   exact stuck a2 (fun k b r z=>by cases z) (fun _=>c)
  ·rw[if_neg c] at e2
   have e3:=Option.some.inj e2
   refine⟨fun t' j' z=>?_,(fun p z=>by rw[z] at e3;cases e3),(fun ts j' z=>by rw[z] at e3;cases e3)⟩
   rw[a1,yg2 (by omega)]
   rfl
 ·have a:=sim s n .sum 0 0 _ [] false e1 (fun p hp=>nomatch hp) rfl (by decide) (Nat.zero_le _) (fun z=>by cases z)
  refine⟨(fun t' j' z=>by rw[e2] at z;cases z),(fun p z=>by rw[e2] at z;cases z;exact a),(fun ts j' z=>by rw[e2] at z;cases z)⟩
def wJob:Job→Nat
 |.sum=>3|.prod=>2|.opnd=>1|_=>0
def kindOk:Job→Res→Prop
 |.parts _,r=>∀t j,r≠.tree t j
 |.partsL _ _,r=>∀t j,r≠.tree t j
 |_,r=>∀t j,r≠.trees t j
theorem ze7{x:Option Res}{k:Tr→Nat→Option Res}{y:Res}(h:x=some y)(hk:∀t j,y≠.trees t j){p:Res→Prop}(hb:∀b,p (.bad b))(h2:∀t j,y=.tree t j→∃r,k t j=some r∧p r):∃r,zd0 x k=some r∧p r:=by
 subst h
 cases y with
 |tree t j=>exact h2 t j rfl
 |trees t j=>exact absurd rfl (hk t j)
 |bad b=>exact⟨.bad b,rfl,hb b⟩
theorem zo2{x:Option Res}{k:List Tr→Nat→Option Res}{y:Res}(h:x=some y)(hk:∀t j,y≠.tree t j){p:Res→Prop}(hb:∀b,p (.bad b))(h2:∀t j,y=.trees t j→∃r,k t j=some r∧p r):∃r,zi8 x k=some r∧p r:=by
 subst h
 cases y with
 |trees t j=>exact h2 t j rfl
 |tree t j=>exact absurd rfl (hk t j)
 |bad b=>exact⟨.bad b,rfl,hb b⟩
theorem ze2(s:List Nat):∀(n:Nat) (job:Job) (d i:Nat),i≤s.length→(∀c,job=.parts c→i<s.length)→8*(s.length+1 - i)+wJob job≤n→∃r,go s n job d i=some r∧kindOk job r
 |0,job,d,i,hi,_,hn=>by omega
 |n+1,.sum,d,i,hi,_,hn=>by
  have hn:8*(s.length+1 - i)+3≤n+1:=hn
  obtain⟨y,e,ky⟩:=ze2 s n .prod d i hi (fun c z=>by cases z) (by show _+2≤n;omega)
  refine ze7 e ky (fun b t j z=>by cases z) fun t j z=>?_
  have le:=(zz8 hi e).1 t j z
  exact ze2 s n (.sumL t) d j le.2 (fun c z=>by cases z) (by show _+0≤n;omega)
 |n+1,.prod,d,i,hi,_,hn=>by
  have hn:8*(s.length+1 - i)+2≤n+1:=hn
  obtain⟨y,e,ky⟩:=ze2 s n .opnd d i hi (fun c z=>by cases z) (by show _+1≤n;omega)
  refine ze7 e ky (fun b t j z=>by cases z) fun t j z=>?_
  have le:=(zz8 hi e).1 t j z
  exact ze2 s n (.prodL t) d j le.2 (fun c z=>by cases z) (by show _+0≤n;omega)
 |n+1,.sumL t,d,i,hi,_,hn=>by
  have hn:8*(s.length+1 - i)+0≤n+1:=hn
  have g:=zf2 (s:=s) (i:=i)
  unfold go
  split
  ·rename_i c
   have kl:=zd8 c
   obtain⟨y,e,ky⟩:=ze2 s n .prod d (zb4 s i+1) (by omega) (fun c z=>by cases z) (by show _+2≤n;omega)
   refine ze7 e ky (fun b t j z=>by cases z) fun t j z=>?_
   have le:=(zz8 (by omega) e).1 t j z
   exact ze2 s n (.sumL _) d j le.2 (fun c z=>by cases z) (by show _+0≤n;omega)
  ·exact⟨_,rfl,fun _ _ z=>by cases z⟩
 |n+1,.prodL t,d,i,hi,_,hn=>by
  have hn:8*(s.length+1 - i)+0≤n+1:=hn
  have g:=zf2 (s:=s) (i:=i)
  unfold go
  split
  ·rename_i c
   have kl:=zd8 c
   obtain⟨y,e,ky⟩:=ze2 s n .opnd d (zb4 s i+1) (by omega) (fun c z=>by cases z) (by show _+1≤n;omega)
   refine ze7 e ky (fun b t j z=>by cases z) fun t j z=>?_
   have le:=(zz8 (by omega) e).1 t j z
   exact ze2 s n (.prodL _) d j le.2 (fun c z=>by cases z) (by show _+0≤n;omega)
  ·exact⟨_,rfl,fun _ _ z=>by cases z⟩
 |n+1,.opnd,d,i,hi,_,hn=>by
  have hn:8*(s.length+1 - i)+1≤n+1:=hn
  have g:=zf2 (s:=s) (i:=i)
  have gl:=zk7 hi
  unfold go zi7
  generalize zb4 s i=k at g gl
  split
  ·rename_i c
   have k1:=yb2 c
   have k2:=zf2 (s:=s) (i:=zc6 (inL zb0) s k)
   unfold zm0
   split
   ·rename_i c2
    have kl:=zd8 c2
    obtain⟨y,e,ky⟩:=ze2 s n (.parts 41) d _ (Nat.le_of_lt kl) (fun _ _=>kl) (by show _+0≤n;omega)
    exact zo2 e ky (fun b t j z=>by cases z) fun t j z=>⟨_,rfl,fun _ _ z=>by cases z⟩
   ·exact⟨_,rfl,fun _ _ z=>by cases z⟩
  ·split
   ·exact⟨_,rfl,fun _ _ z=>by cases z⟩
   ·split
    ·rename_i c2
     have kl:=zd8 c2
     obtain⟨y,e,ky⟩:=ze2 s n (.parts 93) d k (Nat.le_of_lt kl) (fun _ _=>kl) (by show _+0≤n;omega)
     exact zo2 e ky (fun b t j z=>by cases z) fun t j z=>⟨_,rfl,fun _ _ z=>by cases z⟩
    ·split
     ·rename_i c2
      have kl:=zd8 c2
      split
      ·exact⟨_,rfl,fun _ _ z=>by cases z⟩
      ·obtain⟨y,e,ky⟩:=ze2 s n .sum (d+1) (k+1) (by omega) (fun c z=>by cases z) (by show _+3≤n;omega)
       refine ze7 e ky (fun b t j z=>by cases z) fun t j z=>?_
       split
       ·exact⟨_,rfl,fun _ _ z=>by cases z⟩
       ·exact⟨_,rfl,fun _ _ z=>by cases z⟩
     ·exact⟨_,rfl,fun _ _ z=>by cases z⟩
 |n+1,.parts c,d,i,hi,hp,hn=>by
  have hn:8*(s.length+1 - i)+0≤n+1:=hn
  have il:=hp c rfl
  have g:=zf2 (s:=s) (i:=i+1)
  have gl:=zk7 (s:=s) (i:=i+1) (by omega)
  unfold go
  split
  ·exact⟨_,rfl,fun _ _ z=>by cases z⟩
  ·split
   ·exact⟨_,rfl,fun _ _ z=>by cases z⟩
   ·obtain⟨y,e,ky⟩:=ze2 s n .sum (d+1) (zb4 s (i+1)) gl (fun c z=>by cases z) (by show _+3≤n;omega)
    refine ze7 e ky (fun b t j z=>by cases z) fun t j z=>?_
    have le:=(zz8 gl e).1 t j z
    exact ze2 s n (.partsL c [t]) d j le.2 (fun c z=>by cases z) (by show _+0≤n;omega)
 |n+1,.partsL c ts,d,i,hi,_,hn=>by
  have hn:8*(s.length+1 - i)+0≤n+1:=hn
  have g:=zf2 (s:=s) (i:=i)
  unfold go
  split
  ·rename_i c2
   have kl:=zd8 c2
   obtain⟨y,e,ky⟩:=ze2 s n .sum (d+1) (zb4 s i+1) (by omega) (fun c z=>by cases z) (by show _+3≤n;omega)
   refine ze7 e ky (fun b t j z=>by cases z) fun t j z=>?_
   have le:=(zz8 (by omega) e).1 t j z
   exact ze2 s n (.partsL c _) d j le.2 (fun c z=>by cases z) (by show _+0≤n;omega)
  ·split
   ·exact⟨_,rfl,fun _ _ z=>by cases z⟩
   ·exact⟨_,rfl,fun _ _ z=>by cases z⟩
theorem ye7(s:List Nat):∃n r,zw7 s n=some r:=by
 obtain⟨y,e,ky⟩:=ze2 s (8*(s.length+1)+3) .sum 0 0 (Nat.zero_le _) (fun c z=>by cases z) (Nat.le_refl _)
 obtain⟨r,h,_⟩:=ze7 (p:=fun _=>True) (k:=fun t j=>if zb4 s j<s.length then some (.bad (zb4 s j)) else some (.tree t (zb4 s j))) e ky (fun _=>trivial) fun t j _=>by
  by_cases c:zb4 s j<s.length
  ·exact⟨_,if_pos c,trivial⟩
  ·exact⟨_,if_neg c,trivial⟩
 exact⟨_,r,h⟩
end Pq
namespace Pq
open PySem L2
theorem low_log{n:Nat}(h:n<10 ^ 11):((n:Int)).natAbs.log2<1920:=by
 have e:((n:Int)).natAbs=n:=by omega
 rw[e]
 by_cases h0:n=0
 ·subst h0;decide
 ·refine Nat.lt_of_lt_of_le ((Nat.log2_lt (k:=40) h0).mpr ?_) (by decide)
  exact Nat.lt_of_lt_of_le h (by decide)
abbrev yf6:List Str:=["self","place"]
def spBad(C:Addr):Sp:=fun vs H Q _=>∃(x:Addr) (i:Int),vs=[.ref x,.int i]∧H x=some (excR x C)∧i.natAbs.log2<1920∧∀d,H d=none→d≠x→Q .non (upd (upd H d (.xd [("place",.int i)])) x (excM x C d))
def EbX(C:Addr):XK→Nat→Hp→Prop:=fun E i H=>i<10 ^ 11∧∀H' d,Same H H'→H' d=some (.xd [("place",.int (i:Int))])→E (.ref C) (some d) H'
section
variable {P:Program}{w:World}{K:PySem.W.Frag}{mg:Str→Option Value}{base:Heap}{f B C CR:Addr}{fd:FuncData}
theorem scBad:FnScope yf6 yf6 (zb2 zy1):=⟨rfl,rfl,rfl,by decide +kernel,rfl,by decide +kernel,by decide +kernel⟩
theorem ym3(F:Fun K "__init__" "BadText.__init__" zy1 f fd)(Z:OwnX K C f B "place")(mP:mg "PrintError"=some (.ref B)):FnOk P w K mg base CX0 1 f fd yf6 (spBad C):=by
 refine F.okq scBad (fun vs H Q E h=>?_) (fun cdv A outer s H vs Q E hr h=>?_)
 ·obtain⟨x,i,rfl,_⟩:=h
  rfl
 obtain⟨x,i,rfl,hx,hi,q⟩:=h
 refine⟨_,za0 (zd5 (pe_supq Z rfl mP (za4 (pvq 0) (zl0 (pe_fintq (pvq 1) (by decide)) za1 rfl)))) (za7 (ps_xsetq Z (pvq 0) (pvq 1) rfl)),?_⟩
 exact⟨_,rfl,_,rfl,i,rfl,hi,fun m=>⟨x,m,rfl,hx,_,rfl,_,rfl,x,rfl,hx,q⟩⟩
theorem kitX{iD:FuncData}(Z:OwnX K C f B "place")(F:FnOk P w K mg base CX0 1 f iD yf6 (spBad C))(bI:Binds K iD yf6 [])(mT:mg "BadText"=some (.ref C))(T:Rdr K mg CR):RKit P w K mg base CR (CXd P w) (EbX C) where
 pass:=pass_x fun _ _ _ h=>h
 raise:=by
  intro N qual scope g cd A outer s H E np p1 p2 cpos pos hN hv hg hr
  refine⟨fun pins s1 σ H1 D I h=>?_⟩
  obtain⟨p,dx,fs,i,h0,hp,hl,hlt,hE⟩:=h
  refine(yl6 (X:=yd5 (CXd P w) P w K mg base N qual scope g cd A outer s H E) raises_x Z F (hr.mono (by decide)) bI rfl hg mT (zr6 (zf9 (pvq 0 hN hv) rfl) za1)).out pins s1 σ H1 D I ?_
  refine⟨_,h0,p,CR,dx,fs,_,rfl,hp,T.cl,T.nP,hl,(by show 1≤sizeLine;decide),fun e he=>?_⟩
  refine⟨e,i,rfl,za2,low_log hlt,fun d hd hne=>⟨rfl,d,[("place",.int (i:Int))],za2,?_,?_⟩⟩
  ·rw[zb8 hne,za2]
  ·have hd1:H1 d=none:=by rw[zb8 hne] at hd;exact hd
   refine hE _ d (fun b o eb=>?_) ?_
   ·have n1:b≠e:=zb6 eb he
    rw[zn9 n1,zb8 n1,zb8 (zb6 eb hd1),zb8 n1]
    exact eb
   ·rw[zn9 hne,zb8 hne,za2]
end
end Pq
namespace Pq
open PySem L2
abbrev yl7:List Str:=["_law_text_here","_law_at","_law_signs"]
def spRun:Sp:=fun vs H Q _=>∃(s zs:List Nat) (i:Nat),vs=[.str (tx s),.int (i:Int),.str (tx zs)]∧s.length≤1000000∧i≤s.length∧Q (.int ((zc6 (inL zs) s i:Nat) - (i:Nat):Int)) H
def spLW:Sp:=fun vs H Q _=>∃i:Int,vs=[.int i]∧Q (.bl true) H
section
variable {P:Program}{w:World}{K:PySem.W.Frag}{mg:Str→Option Value}{base:Heap}{f:Addr}{fd:FuncData}
theorem scLW:FnScope ["_law_found"] ["_law_found"] (zb2 yf0):=⟨rfl,rfl,rfl,by decide +kernel,rfl,by decide +kernel,by decide +kernel⟩
theorem ok_lwhole(F:Fun K "_law_whole" "_law_whole" yf0 f fd)(mI:mg "isinstance"=none)(mi:mg "int"=none)(mb:mg "bool"=none)(iB:PySem.W.kitOne K (.type "int") (.type "bool")=some false):FnOk P w K mg base CX0 1 f fd ["_law_found"] spLW:=by
 refine F.okq scLW (fun vs H Q E h=>?_) (fun cdv A outer s H vs Q E hr h=>?_)
 ·obtain⟨i,rfl,_⟩:=h
  rfl
 obtain⟨i,rfl,q⟩:=h
 refine⟨_,za7 (zc0 (zi6 (zd7 yl0 rfl mI PyProof.Rows.boot_isinstance (za4 (pvq 0) (za4 (zy9 (v:=.ty "int") rfl mi PyProof.Rows.boot_int rfl) za1)))
  (zh8 (zy8 (zd7 yl0 rfl mI PyProof.Rows.boot_isinstance (za4 (pvq 0) (za4 (zy9 (v:=.ty "bool") rfl mb PyProof.Rows.boot_bool rfl) za1))))))),?_⟩
 refine⟨_,rfl,_,_,_,_,_,rfl,.of (.int i),rfl,yk0,_,rfl,zj4 ?_⟩
 exact⟨_,rfl,_,_,_,_,_,rfl,.of (.int i),rfl,iB,_,rfl,q⟩
theorem scLRun:FnScope ["_law_text_here","_law_at","_law_signs","_law_size"] yl7 (zb2 sLRun):=⟨rfl,rfl,rfl,by decide +kernel,rfl,by decide +kernel,by decide +kernel⟩
theorem ok_lrun(F:Fun K "_law_run" "_law_run" sLRun f fd)(ml:mg "len"=none):FnOk P w K mg base CX0 1 f fd yl7 spRun:=by
 refine F.okq scLRun (fun vs H Q E h=>?_) (fun cdv A outer s0 H vs Q E hr h=>?_)
 ·obtain⟨s,zs,i,rfl,_⟩:=h
  rfl
 obtain⟨s,zs,i,rfl,hz,hi,q⟩:=h
 have nd:=scLRun.nd
 refine⟨_,za0 (zb1 (i:=3) nd rfl (Or.inl rfl) za5)<|
  za0 (zi4 PassesOwn.never (PW.ptq (zn4 (zc5 yc2 (zb3 zg7 (pvq 1) (pvq 3)) (zd7 zg4 rfl ml PySem.boot_len (za4 (pvq 0) za1)) (ze1 _))
   (zk9 (zc5 op_in_str (zd6 zt5 (pvq 0) (zb3 zg7 (pvq 1) (pvq 3)) (fun _ _=>rfl)) (pvq 2) rfl)))) (za7 (zb1 (i:=3) nd rfl (Or.inl rfl) (zb3 zg7 (pvq 3) za5))))<|
  za7 (zc0 (pvq 3)),?_⟩
 refine⟨fun m σ H'=>∃k:Nat,σ=[some (.str (tx s)),some (.int (i:Int)),some (.str (tx zs)),some (.int (k:Int))]∧H'=H∧zc6 (inL zs) s (i+k)=zc6 (inL zs) s i∧i+k≤s.length∧m=s.length - (i+k),⟨_,0,rfl,rfl,rfl,hi,rfl⟩,?_⟩
 rintro m σ H' ⟨k,rfl,rfl,e,hk,rfl⟩
 refine⟨_,rfl,_,rfl,_,_,rfl,rfl,_,rfl,_,rfl,zb7 (by rw[ze4];omega),_,_,rfl,rfl,_,rfl,?_⟩
 rw[ze4]
 have fin:atP (inL zs) s (i+k)=false→Q (.int (k:Int)) H':=fun c=>by
  rw[zi2 c] at e
  rw[←e] at q
  have e2:(((i+k:Nat):Int) - (i:Nat):Int)=(k:Int):=by omega
  rw[e2] at q
  exact q
 by_cases hl:i+k<s.length
 ·have e1:s[i+k]? = some s[i+k]:=List.getElem?_eq_getElem hl
  refine zk4 (decide_eq_true (by omega)) ?_
  refine⟨_,rfl,_,rfl,_,rfl,_,_,rfl,rfl,tx s,_,s[i+k],rfl,rfl,zb7 (by rw[ze4];omega),?_,_,rfl,tx [s[i+k]],tx zs,rfl,rfl,?_⟩
  ·have e2:(i:Int)+(k:Int)=((i+k:Nat):Int):=by omega
   rw[e2]
   exact zh2 (by simpa [tx] using e1)
  rw[yc8]
  refine⟨_,rfl,?_⟩
  have ea:atP (inL zs) s (i+k)=zs.contains s[i+k]:=zc4 e1
  cases c:zs.contains s[i+k] with
  |true=>
   refine zj4 ⟨fun σ' H''=>∃n',n'<s.length - (i+k)∧∃k':Nat,σ'=[some (.str (tx s)),some (.int (i:Int)),some (.str (tx zs)),some (.int (k':Int))]∧H''=H'∧zc6 (inL zs) s (i+k')=zc6 (inL zs) s i∧i+k'≤s.length∧n'=s.length - (i+k'),fun σ' H'' z=>z,?_⟩
   refine⟨_,rfl,_,_,rfl,rfl,s.length - (i+(k+1)),by omega,k+1,?_,rfl,?_,by omega,rfl⟩
   ·show[some (V.str (tx s)),some (V.int (i:Int)),some (V.str (tx zs)),some (V.int ((k:Int)+1))]=_
    rfl
   ·rw[←e]
    exact zu9 (i:=i+k) (ea.trans c)
  |false=>exact zk5 ⟨_,rfl,fin (by rw[ea];exact c)⟩
 ·exact zp5 (fun z=>hl (by have:=of_decide_eq_true z;omega)) (zk5 ⟨_,rfl,fin (zn8 (by omega))⟩)
end
end Pq
namespace Pq
open PySem L2
theorem bn_tx:(Str.ofString " \n")=tx blanksL:=by decide +kernel
theorem fg_tx:(Str.ofString "0123456789")=tx figuresL:=by decide +kernel
theorem lt_tx:(Str.ofString "abcdefghijklmnopqrstuvwxyz")=tx zb0:=by decide +kernel
theorem op3_tx:(Str.ofString "+-*")=tx [43,45,42]:=by decide +kernel
theorem w_lp:(Str.ofString "(")=tx [40]:=by decide +kernel
theorem w_rp:(Str.ofString ")")=tx [41]:=by decide +kernel
theorem w_lb:(Str.ofString "[")=tx [91]:=by decide +kernel
theorem w_rb:(Str.ofString "]")=tx [93]:=by decide +kernel
theorem w_co:(Str.ofString ",")=tx [44]:=by decide +kernel
theorem w_ze:(Str.ofString "0")=tx [48]:=by decide +kernel
theorem zp7(c k:Nat){z:Str}(h:z=tx [k]):decide (V.str (tx [c])=V.str z)=decide (c=k):=by
 rw[h]
 by_cases e:c=k
 ·subst e;simp
 ·rw[decide_eq_false e,decide_eq_false (fun q=>e (by have:=yh3 (V.str.inj q);simpa using this))]
def CellAt(H:Hp)(a:Addr)(p:Nat×Bool):Prop:=H a=some (.tup [.str (tx [p.1]),.bl p.2])
def Cells(H:Hp):List Addr→List (Nat×Bool)→Prop
 |[],[]=>True
 |a::as,p::ps=>CellAt H a p∧Cells H as ps
 |_,_=>False
theorem Cells.mono{H H':Hp}(t:Tups H H'):∀ {as:List Addr} {st:List (Nat×Bool)},Cells H as st→Cells H' as st
 |[],[],_=>True.intro
 |_::_,_::_,h=>⟨t _ _ h.1,Cells.mono t h.2⟩
 |[],_::_,h=>h.elim
 |_::_,[],h=>h.elim
theorem Cells.len{H:Hp}:∀ {as:List Addr} {st:List (Nat×Bool)},Cells H as st→as.length=st.length
 |[],[],_=>rfl
 |_::_,_::_,h=>congrArg (· + 1) (Cells.len h.2)
 |[],_::_,h=>h.elim
 |_::_,[],h=>h.elim
def StkAt(H:Hp)(l:Addr)(st:List (Nat×Bool)):Prop:=∃as:List Addr,H l=some (.lst (as.reverse.map V.ref))∧Cells H as st
theorem StkAt.mono{H H':Hp}(t:Same H H'){l:Addr}{st:List (Nat×Bool)}(h:StkAt H l st):StkAt H' l st:=
 let ⟨as,h1,h2⟩:=h
 ⟨as,t _ _ h1,h2.mono (.of t)⟩
def zq9(p:Nat×Bool):PyData:=.tuple [.str (tx [p.1]),.bool p.2]
theorem yk6{H:Hp}{x:V}{d:PyData}:∀ {xs:List V} {ds:List PyData},DVs H xs ds→DV H x d→DVs H (xs++[x]) (ds++[d])
 |_,_,.nil,h=>.cons h .nil
 |_,_,.cons h t,h'=>.cons h (yk6 t h')
theorem Cells.dvs{H:Hp}:∀ {as:List Addr} {st:List (Nat×Bool)},Cells H as st→DVs H (as.reverse.map V.ref) (st.reverse.map zq9)
 |[],[],_=>.nil
 |a::as,p::ps,h=>by
  rw[List.reverse_cons,List.reverse_cons,List.map_append,List.map_append]
  exact yk6 (Cells.dvs h.2) (.tup h.1 (.cons (.str _) (.cons (.bl _) .nil)))
 |[],_::_,h=>h.elim
 |_::_,[],h=>h.elim
theorem cell_lay{p:Nat×Bool}(h:p.1=41∨p.1=93):PyData.canLay0 (zq9 p)=true:=by
 obtain⟨k,b⟩:=p
 rcases h with z|z<;>(have z:k=_:=z;subst z;cases b<;>decide +kernel)
theorem yd8:∀ {st:List (Nat×Bool)},(∀p∈st,p.1=41∨p.1=93)→PyData.canLayAll0 (st.map zq9)=true
 |[],_=>rfl
 |p::r,h=>by
  show(PyData.canLay0 (zq9 p)&&PyData.canLayAll0 (r.map zq9))=true
  rw[cell_lay (h p (List.mem_cons_self ..)),yd8 fun q hq=>h q (List.mem_cons_of_mem _ hq)]<;>rfl
theorem zw5:∀st:List (Nat×Bool),PyData.depthAll (st.map zq9)≤1
 |[]=>Nat.zero_le _
 |p::r=>by
  show max (PyData.depth (zq9 p)) (PyData.depthAll (r.map zq9))≤1
  exact Nat.max_le.mpr ⟨Nat.le_refl 1,zw5 r⟩
theorem stk_ne{H:Hp}{l p:Addr}{st:List (Nat×Bool)}(h:StkAt H l st)(ho:okSt st)(hp:H p=some (.lst [])):∃dx dy,DV H (.ref l) dx∧DV H (.ref p) dy∧dx.canLay0=true∧dy.canLay0=true∧dx.depth≤64∧(!PyData.eqv dx dy) = !st.isEmpty:=by
 obtain⟨as,h1,h2⟩:=h
 refine⟨.list (st.reverse.map zq9),.list [],.lst h1 h2.dvs,.lst hp .nil,yd8 fun q hq=>ho q (List.mem_reverse.mp hq),rfl,?_,?_⟩
 ·show PyData.depthAll (st.reverse.map zq9)+1≤64
  have:=zw5 st.reverse
  omega
 ·cases st with
  |nil=>rfl
  |cons q r=>
   have e:∃d ds,(q::r).reverse.map zq9=d::ds:=by
    cases z:(q::r).reverse.map zq9 with
    |nil=>
     have:=congrArg List.length z
     simp at this
    |cons d ds=>exact⟨d,ds,rfl⟩
   obtain⟨d,ds,e⟩:=e
   rw[e]
   rfl
theorem StkAt.top{H:Hp}{l:Addr}{k:Nat}{b:Bool}{r:List (Nat×Bool)}(h:StkAt H l ((k,b)::r)):∃as a,H l=some (.lst (as.reverse.map V.ref++[V.ref a]))∧H a=some (.tup [.str (tx [k]),.bl b])∧Cells H as r:=by
 obtain⟨as,h1,h2⟩:=h
 cases as with
 |nil=>exact h2.elim
 |cons a as=>
  refine⟨as,a,?_,h2.1,h2.2⟩
  rw[List.reverse_cons,List.map_append] at h1
  exact h1
theorem cut_last(xs:List V)(v:V):cutV (xs++[v]) none (some (-1))=xs:=by
 unfold cutV
 have e:HT.sIx (xs++[v]).length (xs++[v]).length (some (-1))=xs.length:=by
  show(if(-1:Int)<0 then((-1:Int)+((xs++[v]).length:Int)).toNat else min (-1:Int).toNat (xs++[v]).length)=_
  rw[if_pos (by decide),List.length_append]
  simp only[List.length_cons,List.length_nil]
  omega
 rw[e]
 show((xs++[v]).drop 0).take (xs.length - 0)=xs
 rw[List.drop_zero,Nat.sub_zero,List.take_left]
section
variable {σ:St}{H:Hp}{l:Addr}{st:List (Nat×Bool)}{c:Nat}{w f n:Bool}{Q:VK}{K:PySem.W.Frag}
theorem closes_rd(h2:σ[2]? = some (some (.ref l)))(h7:σ[7]? = some (some (.str (tx [c]))))(h3:σ[3]? = some (some (.bl w)))(h4:σ[4]? = some (some (.bl f)))(hst:StkAt H l st)(ho:okSt st)(k:∀H',Same H H'→Q (.bl (zg1 c st w f)) H'):
  ya8 (tOp (fun x y H Q=>∃dx dy,DV H x dx∧DV H y dy∧dx.canLay0=true∧dy.canLay0=true∧dx.depth≤64∧Q (V.bl !dx.eqv dy) H) (zp1 2) (tLst tNil))
   (ya8 (tOp rEq (zp1 7) (tOp (rIxT K) (tOp (rIxL K) (zp1 2) (tUn (rU fun i=>V.int (-i)) (tC (V.int 1)))) (tC (V.int 0)))) (tOrV (tNotV (zp1 3)) (zp1 4))) σ H Q:=by
 refine⟨_,h2,(by show 0≤sizeLine;decide),fun p hp=>?_⟩
 have s1:=za6 hp (.lst [])
 obtain⟨dx,dy,a1,a2,a3,a4,a5,e5⟩:=stk_ne (hst.mono s1) ho za2
 refine⟨dx,dy,a1,a2,a3,a4,a5,?_⟩
 rw[e5]
 refine⟨_,rfl,?_⟩
 cases st with
 |nil=>exact zk5 (k _ s1)
 |cons q r=>
  obtain⟨kk,b⟩:=q
  obtain⟨as,a,x1,x2,x3⟩:=(hst.mono s1).top
  refine zj4 ⟨_,h7,_,h2,1,rfl,l,_,-1,_,rfl,rfl,SqL.of x1,yl3 _ _,a,_,0,_,rfl,rfl,SqT.of x2,rfl,rfl,?_⟩
  rw[zp7 c kk rfl]
  refine⟨_,rfl,?_⟩
  have e:zg1 c ((kk,b)::r) w f=(decide (c=kk)&&(!w||f)):=rfl
  rw[e] at k
  cases d:decide (c=kk) with
  |false=>rw[d] at k;exact zk5 (k _ s1)
  |true=>
   rw[d] at k
   refine zj4 ⟨_,h3,w,rfl, !w,rfl,?_⟩
   cases w with
   |false=>exact zj4 (k _ s1)
   |true=>exact zk5 ⟨_,h4,k _ s1⟩
theorem parts_rd(h2:σ[2]? = some (some (.ref l)))(hst:StkAt H l st)(ho:okSt st)(k:∀H',Same H H'→Q (.bl (zv3 st)) H'):
  ya8 (tOp (fun x y H Q=>∃dx dy,DV H x dx∧DV H y dy∧dx.canLay0=true∧dy.canLay0=true∧dx.depth≤64∧Q (V.bl !dx.eqv dy) H) (zp1 2) (tLst tNil))
   (tOp (rIxT K) (tOp (rIxL K) (zp1 2) (tUn (rU fun i=>V.int (-i)) (tC (V.int 1)))) (tC (V.int 1))) σ H Q:=by
 refine⟨_,h2,(by show 0≤sizeLine;decide),fun p hp=>?_⟩
 have s1:=za6 hp (.lst [])
 obtain⟨dx,dy,a1,a2,a3,a4,a5,e5⟩:=stk_ne (hst.mono s1) ho za2
 refine⟨dx,dy,a1,a2,a3,a4,a5,?_⟩
 rw[e5]
 refine⟨_,rfl,?_⟩
 cases st with
 |nil=>exact zk5 (k _ s1)
 |cons q r=>
  obtain⟨kk,b⟩:=q
  obtain⟨as,a,x1,x2,x3⟩:=(hst.mono s1).top
  exact zj4 ⟨_,h2,1,rfl,l,_,-1,_,rfl,rfl,SqL.of x1,yl3 _ _,a,_,1,_,rfl,rfl,SqT.of x2,rfl,k _ s1⟩
theorem opens_rd(h7:σ[7]? = some (some (.str (tx [c]))))(h3:σ[3]? = some (some (.bl w)))(h5:σ[5]? = some (some (.bl n)))(k:Q (.bl (zf1 c w n)) H):
  tOrV (ya8 (tOp rEq (zp1 7) (tC (V.str (Str.ofString "(")))) (tOrV (zp1 3) (zp1 5))) (ya8 (tOp rEq (zp1 7) (tC (V.str (Str.ofString "[")))) (zp1 3)) σ H Q:=by
 have e:zf1 c w n=((decide (c=40)&&(w||n))||(decide (c=91)&&w)):=rfl
 rw[e] at k
 refine⟨_,h7,rfl,?_⟩
 rw[zp7 c 40 w_lp]
 refine⟨_,rfl,?_⟩
 have sec:(decide (c=40)&&(w||n))=false→ya8 (tOp rEq (zp1 7) (tC (V.str (Str.ofString "[")))) (zp1 3) σ H Q:=fun z=>by
  rw[z] at k
  refine⟨_,h7,rfl,?_⟩
  rw[zp7 c 91 w_lb]
  refine⟨_,rfl,?_⟩
  cases d:decide (c=91) with
  |false=>rw[d] at k;exact zk5 k
  |true=>rw[d] at k;exact zj4 ⟨_,h3,k⟩
 cases d:decide (c=40) with
 |false=>exact zk5 ⟨_,rfl,zk5 (sec (by rw[d];rfl))⟩
 |true=>
  rw[d] at k
  refine zj4 ⟨_,h3,w,rfl,?_⟩
  cases w with
  |true=>exact zj4 ⟨_,rfl,zj4 k⟩
  |false=>
   refine zk5 ⟨_,h5,_,rfl,?_⟩
   cases n with
   |true=>exact zj4 k
   |false=>exact zk5 (sec (by rw[d];rfl))
theorem ye5{zs:List Nat}{Qb:Bool→Hp→Prop}{ty:TE}(h11:σ[11]? = some (some (.bl w)))(h7:σ[7]? = some (some (.str (tx [c]))))(hy:∀Q':VK,Q' (.str (tx zs)) H→ty σ H Q')(k:Qb (w&&inL zs c) H):
  tAnd (tB (zp1 11)) (yl5 (tOp (fun x y H Q=>∃i j,x=V.str i∧y=V.str j∧Q (V.bl !(Builtin.Str.occurrences j i 0 j.length 1).isEmpty) H) (zp1 7) ty)) σ H Qb:=by
 refine⟨_,h11,w,rfl,?_⟩
 cases w with
 |false=>exact zk5 k
 |true=>
  refine zj4 ⟨_,h7,hy _ ⟨tx [c],tx zs,rfl,rfl,?_⟩⟩
  rw[yc8]
  exact⟨_,rfl,k⟩
theorem eq_rd{z:Str}{kk:Nat}{Qb:Bool→Hp→Prop}(hz:z=tx [kk])(h7:σ[7]? = some (some (.str (tx [c]))))(k:Qb (decide (c=kk)) H):yl5 (tOp rEq (zp1 7) (tC (V.str z))) σ H Qb:=by
 refine⟨_,h7,rfl,?_⟩
 rw[zp7 c kk hz]
 exact⟨_,rfl,k⟩
theorem fresh_rd(h11:σ[11]? = some (some (.bl w)))(h7:σ[7]? = some (some (.str (tx [c]))))(k:Q (.bl (zm2 c w)) H):
  tOrV (tOp rEq (zp1 7) (tC (V.str (Str.ofString "[")))) (tNotV (zp1 11)) σ H Q:=by
 have e:zm2 c w=(decide (c=91) || !w):=rfl
 rw[e] at k
 refine⟨_,h7,rfl,?_⟩
 rw[zp7 c 91 w_lb]
 refine⟨_,rfl,?_⟩
 cases d:decide (c=91) with
 |true=>rw[d] at k;exact zj4 k
 |false=>rw[d] at k;exact zk5 ⟨_,h11,w,rfl,k⟩
theorem op_rd{pb:Bool}{Qb:Bool→Hp→Prop}(h11:σ[11]? = some (some (.bl w)))(h7:σ[7]? = some (some (.str (tx [c]))))(h10:σ[10]? = some (some (.bl pb)))(k:Qb (!w&&(inL [43,45,42] c||(decide (c=44)&&pb))) H):
  tAnd (tNot (tB (zp1 11))) (tOr (yl5 (tOp (fun x y H Q=>∃i j,x=V.str i∧y=V.str j∧Q (V.bl !(Builtin.Str.occurrences j i 0 j.length 1).isEmpty) H) (zp1 7) (tC (V.str (Str.ofString "+-*")))))
   (tAnd (yl5 (tOp rEq (zp1 7) (tC (V.str (Str.ofString ","))))) (tB (zp1 10)))) σ H Qb:=by
 refine⟨_,h11,w,rfl,?_⟩
 cases w with
 |true=>exact zk5 k
 |false=>
  refine zj4 ⟨_,h7,tx [c],tx [43,45,42],rfl,congrArg V.str op3_tx,?_⟩
  rw[yc8]
  refine⟨_,rfl,?_⟩
  have k':Qb ([43,45,42].contains c||(decide (c=44)&&pb)) H:=k
  cases d:([43,45,42]:List Nat).contains c with
  |true=>rw[d] at k';exact zj4 k'
  |false=>
   rw[d] at k'
   refine zk5 ⟨_,h7,rfl,?_⟩
   rw[zp7 c 44 w_co]
   refine⟨_,rfl,?_⟩
   cases d2:decide (c=44) with
   |true=>rw[d2] at k';exact zj4 ⟨_,h10,pb,rfl,k'⟩
   |false=>rw[d2] at k';exact zk5 k'
theorem close_val{c:Nat}(h:c=40∨c=91):ye8 (zo4 [] [(Sum.inr (Str.ofString "("),V.str (Str.ofString ")")),(Sum.inr (Str.ofString "["),V.str (Str.ofString "]"))]:List (Key×V)) (Sum.inr (tx [c]))=some (V.str (tx [zf8 c])):=by
 rw[w_lp,w_rp,w_lb,w_rb]
 have n1:(Sum.inr (tx [91]):Key)≠Sum.inr (tx [40]):=fun e=>by have:=yh3 (Sum.inr.inj e);simp at this
 rcases h with z|z<;>subst z
 ·unfold zo4 ye8
  simp[ye6,n1.symm,zf8]
 ·unfold zo4 ye8
  simp[ye6,n1,n1.symm,zf8]
end
def resI:Option Nat→Int
 |some p=>(p:Int)
 |none => -1
abbrev nWr:List Str:=["_law_text_here","_law_letters","_law_stack","_law_waits","_law_fresh","_law_name","_law_at","_law_sign","_law_size","_law_closes","_law_parts","_law_before","_law_opens"]
def spWrong:Sp:=fun vs H Q _=>∃s:List Nat,vs=[.str (tx s)]∧s.length≤1000000∧∀H',Same H H'→Q (.int (resI (zj3 s 0 [] true false false))) H'
def WrI(s:List Nat)(H0:Hp)(m:Nat)(σ:St)(H:Hp):Prop:=∃(l:Addr) (i:Nat) (st:List (Nat×Bool)) (w f n:Bool) (o7 o8 o9 o10 o11 o12:Option V),
 σ=[some (.str (tx s)),some (.str (tx zb0)),some (.ref l),some (.bl w),some (.bl f),some (.bl n),some (.int (i:Int)),o7,o8,o9,o10,o11,o12]∧StkAt H l st∧H0 l=none∧okSt st∧st.length≤20∧Same H0 H∧
 zj3 s i st w f n=zj3 s 0 [] true false false∧i≤s.length∧m=s.length - i
section
variable {P:Program}{w:World}{K:PySem.W.Frag}{mg:Str→Option Value}{base:Heap}{f:Addr}{fd:FuncData}
theorem scWrong:FnScope nWr ["_law_text_here"] (zb2 yh7):=⟨rfl,rfl,rfl,by decide +kernel,rfl,by decide +kernel,by decide +kernel⟩
theorem ok_wrong{fR:Addr}{rD:FuncData}(F:Fun K "_law_wrong" "_law_wrong" yh7 f fd)(ml:mg "len"=none)(G:FnOk P w K mg base CX0 1 fR rD yl7 spRun)(bG:Binds K rD yl7 [])(kG:PySem.W.keepIn K (.ref fR)=true)(mG:mg "_law_run"=some (.ref fR)):
  FnOk P w K mg base CX0 2 f fd ["_law_text_here"] spWrong:=by
 refine F.okq scWrong (fun vs H Q E h=>?_) (fun cdv A outer s0 H vs Q E hr h=>?_)
 ·obtain⟨s,rfl,_⟩:=h
  rfl
 obtain⟨s,rfl,hz,q⟩:=h
 have nd:=scWrong.nd
 have hu:=hr.units
 have hu1:(A.deeper (PyProof.Rows.envOfC (Str.ofString "_law_wrong") (zb2 yh7) s0.heap.objs.size f cdv)).units+1<cLine:=by omega
 refine⟨_,(za0 (zb1 (i:=1) nd rfl (Or.inl rfl) za8) (za0 (zb1 (i:=2) nd rfl (Or.inl rfl) (ze0 za1)) (za0 (zb1 (i:=3) nd rfl (Or.inl rfl) zl9) (za0 (zb1 (i:=4) nd rfl (Or.inl rfl) zl9) (za0 (zb1 (i:=5) nd rfl (Or.inl rfl) zl9) (za0 (zb1 (i:=6) nd rfl (Or.inl rfl) za5) (za0 (zi4 PassesOwn.never (zc5 yc2 (pvq 6) (zd7 zg4 rfl ml PySem.boot_len (za4 (pvq 0) za1)) (ze1 _)) (za0 (zb1 (i:=7) nd rfl (Or.inl rfl) (zd6 zt5 (pvq 0) (pvq 6) (fun _ _=>rfl))) (za0 (zb1 (i:=8) nd rfl (Or.inl rfl) za5) (za0 (zb1 (i:=9) nd rfl (Or.inl rfl) (zi6 (zf0 (op_neD hu) (pvq 2) (ze0 za1) (ze1 _)) (zi6 (zf0 zm9 (pvq 7) (zd6 zn2 (zd6 zi0 (pvq 2) (zv1 zu4 za5) (fun _ _=>rfl)) za5 (fun _ _=>rfl)) (ze1 _)) (zh8 (yj1 (zy8 (pvq 3)) (zh8 (pvq 4))))))) (za0 (zb1 (i:=10) nd rfl (Or.inl rfl) (zi6 (zf0 (op_neD hu) (pvq 2) (ze0 za1) (ze1 _)) (zh8 (zd6 zn2 (zd6 zi0 (pvq 2) (zv1 zu4 za5) (fun _ _=>rfl)) za5 (fun _ _=>rfl))))) (za0 (ze9 (zc5 yc1 (pvq 7) za8 rfl) (za0 (zb1 (i:=11) nd rfl (Or.inl rfl) (pvq 3)) (za0 (zb1 (i:=12) nd rfl (Or.inl rfl) (yj1 (zi6 (zf0 zm9 (pvq 7) za8 (ze1 _)) (zh8 (yj1 (pvq 3) (zh8 (pvq 5))))) (zh8 (zi6 (zf0 zm9 (pvq 7) za8 (ze1 _)) (zh8 (pvq 3)))))) (za0 (zb1 (i:=4) nd rfl (Or.inl rfl) zl9) (za0 (zb1 (i:=5) nd rfl (Or.inl rfl) zl9) (za7 (ze9 (PW.ptq (zn4 (zd1 (pvq 11)) (zk9 (zc5 op_in_str (pvq 7) (pvq 1) rfl)))) (za0 (zb1 (i:=8) nd rfl (Or.inl rfl) (zc2 G hr rfl mG kG bG .nil zd2 (za4 (pvq 0) (za4 (pvq 6) (za4 (pvq 1) za1))))) (za0 (zb1 (i:=5) nd rfl (Or.inl rfl) zl9) (za7 (zb1 (i:=3) nd rfl (Or.inl rfl) zl9)))) (za7 (ze9 (PW.ptq (zn4 (zd1 (pvq 11)) (zk9 (zc5 op_in_str (pvq 7) za8 rfl)))) (za0 (zb1 (i:=8) nd rfl (Or.inl rfl) (zi5 (zc5 zm9 (pvq 7) za8 (ze1 _)) za5 (zc2 G hr rfl mG kG bG .nil zd2 (za4 (pvq 0) (za4 (pvq 6) (za3 za8 za1)))))) (za7 (zb1 (i:=3) nd rfl (Or.inl rfl) zl9))) (za7 (ze9 (PW.ptq (zn4 (zc5 yc2 (zd7 zm4 rfl ml PySem.boot_len (za4 (pvq 2) za1)) za5 (ze1 _)) (zk9 (zd1 (pvq 12))))) (za0 (zb1 (i:=4) nd rfl (Or.inl rfl) (yj1 (zf0 zm9 (pvq 7) za8 (ze1 _)) (zh8 (zy8 (pvq 11))))) (za0 (zd5 (zq7 PySem.F.plainAttrs_list PySem.F.slot_list_append PySem.F.type_list_append zo3 (pvq 2) (zz0 (ze5 (zh9 (pe_dgetq hu1 (pe_dispq (yb7 za8 za8 (yb7 za8 za8 pps_nil)) rfl rfl (by simp) (by decide)) (pvq 7) (fun _ _=>rfl)) (za4 (pvq 4) za1))) za1))) (za7 (zb1 (i:=3) nd rfl (Or.inl rfl) zl9)))) (za7 (ze9 (zd1 (pvq 9)) (za0 (zb1 (i:=2) nd rfl (Or.inl rfl) (zg5 sl_list (pvq 2) zl8 (zh4 (zv1 zu4 za5)))) (za7 (zb1 (i:=3) nd rfl (Or.inl rfl) zl9))) (za7 (ze9 (PW.ptq (zn4 (yf3 (zd1 (pvq 11))) (zk9 (PW.ptq (pw_orq (zc5 op_in_str (pvq 7) za8 rfl) (yf2 (PW.ptq (zn4 (zc5 zm9 (pvq 7) za8 (ze1 _)) (zk9 (zd1 (pvq 10))))))))))) (za7 (zb1 (i:=3) nd rfl (Or.inl rfl) zl9)) (za7 (zc0 (pvq 6))))))))))))))))) zc9) (za7 (zb1 (i:=6) nd rfl (Or.inl rfl) (zb3 zg7 (pvq 6) (pvq 8)))))))))) (za7 (zc0 (zi5 (PW.ptq (pw_orq (zd1 (pvq 3)) (yf2 (yb4 (pvq 2) (fun _=>rfl))))) (zd7 zg4 rfl ml PySem.boot_len (za4 (pvq 0) za1)) (zv1 zu4 za5))))))))))),?_⟩
 refine⟨(by show 0≤sizeLine;decide),fun l0 hl0=>?_⟩
 rw[lt_tx]
 refine⟨WrI s H,⟨_,l0,0,[],true,false,false,none,none,none,none,none,none,rfl,⟨[],za2,True.intro⟩,hl0,(fun p hp=>nomatch hp),Nat.zero_le _,za6 hl0 _,rfl,Nat.zero_le _,rfl⟩,?_⟩
 rintro m σ H' ⟨l,i,st,wa,fr,na,o7,o8,o9,o10,o11,o12,rfl,hst,hl,ho,h20,sm,em,hi,rfl⟩
 refine⟨_,rfl,_,rfl,_,rfl,zb7 (by rw[ze4];omega),_,_,rfl,rfl,_,rfl,?_⟩
 rw[ze4]
 by_cases hlt:i<s.length
 ·have e1:s[i]? = some s[i]:=List.getElem?_eq_getElem hlt
  generalize s[i]=c at e1
  refine zk4 (decide_eq_true (by omega)) ⟨fun σ' H''=>∃m',m'<s.length - i∧WrI s H m' σ' H'',fun _ _ z=>z,?_⟩
  refine⟨_,rfl,_,rfl,tx s,_,c,rfl,rfl,zb7 (by rw[ze4];omega),zh2 (by simpa [tx] using e1),?_⟩
  refine closes_rd rfl rfl rfl rfl hst ho fun H1 s1=>?_
  have hst1:=hst.mono s1
  refine parts_rd rfl hst1 ho fun H2 s2=>?_
  have hst2:=hst1.mono s2
  have sm2:=sm.trans (s1.trans s2)
  have done_:∀(iv:Int) (i' l':Nat) (st':List (Nat×Bool)) (w' f' n':Bool) (H3:Hp) (x7 x8 x9 x10 x11 x12:Option V),iv=(i':Int)→i<i'→i'≤s.length→StkAt H3 l' st'→H l'=none→okSt st'→st'.length≤20→Same H H3→zj3 s i' st' w' f' n'=zj3 s i st wa fr na→
    ∃m',m'<s.length - i∧WrI s H m' [some (.str (tx s)),some (.str (tx zb0)),some (.ref l'),some (.bl w'),some (.bl f'),some (.bl n'),some (.int iv),x7,x8,x9,x10,x11,x12] H3:=by
   intro iv i' l' st' w' f' n' H3 x7 x8 x9 x10 x11 x12 h0 h1 h2 h3 h4 h5 h6 h7 h8
   subst h0
   exact⟨s.length - i',by omega,l',i',st',w',f',n',_,_,_,_,_,_,rfl,h3,h4,h5,h6,h7,h8.trans em,h2,rfl⟩
  refine⟨_,rfl,tx [c],tx blanksL,rfl,congrArg V.str bn_tx,?_⟩
  rw[yc8]
  refine⟨_,rfl,?_⟩
  cases hb:blanksL.contains c with
  |true=>
   refine zk5 ⟨_,rfl,_,rfl,_,_,rfl,rfl,?_⟩
   exact done_ _ (i+1) l st wa fr na H2 _ _ _ _ _ _ (by omega) (by omega) (by omega) hst2 hl ho h20 sm2 (yg3 (by rw[zc4 e1];exact hb)).symm
  |false=>
   have ma:=yg4 (st:=st) (w:=wa) (f:=fr) (n:=na) e1 hb
   refine zj4 ⟨_,rfl,?_⟩
   refine opens_rd rfl rfl rfl ?_
   refine ye5 rfl rfl (fun _ z=>⟨_,rfl,z⟩) ?_
   have run_end:∀(zs:List Nat),inL zs c=true→i<zc6 (inL zs) s i∧zc6 (inL zs) s i≤s.length:=fun zs hz'=>⟨yb2 (by rw[zc4 e1];exact hz'),zu8 hi⟩
   cases c1:(wa&&inL zb0 c) with
   |true=>
    obtain⟨r1,r2⟩:=run_end zb0 ((Bool.and_eq_true _ _).mp c1).2
    refine zj4 ⟨_,rfl,_,rfl,_,rfl,s,zb0,i,rfl,by omega,hi,?_⟩
    refine⟨_,rfl,_,rfl,_,_,rfl,rfl,?_⟩
    exact done_ _ (zc6 (inL zb0) s i) l st false false true H2 _ _ _ _ _ _ (by omega) r1 r2 hst2 hl ho h20 sm2 (ma.trans (if_pos c1)).symm
   |false=>
   refine zk5 ?_
   refine ye5 rfl rfl (fun _ z=>by rw[←fg_tx] at z;exact z) ?_
   rw[if_neg (by rw[c1];decide)] at ma
   cases c2:(wa&&inL figuresL c) with
   |true=>
    have hfig:=((Bool.and_eq_true _ _).mp c2).2
    obtain⟨r1,r2⟩:=run_end figuresL hfig
    rw[if_pos c2] at ma
    refine zj4 ?_
    refine eq_rd w_ze rfl ?_
    have nj:yf9 s i=if decide (c=48)=true then i+1 else zc6 (inL figuresL) s i:=by
     unfold yf9
     rw[zc4 e1,in1]
    cases d:decide (c=48) with
    |true=>
     rw[d,if_pos rfl] at nj
     rw[nj] at ma
     refine zj4 ⟨_,rfl,_,rfl,_,_,rfl,rfl,?_⟩
     exact done_ _ (i+1) l st false false false H2 _ _ _ _ _ _ (by omega) (by omega) (by omega) hst2 hl ho h20 sm2 ma.symm
    |false=>
     rw[d,if_neg (by decide)] at nj
     rw[nj] at ma
     refine zk5 ⟨_,rfl,_,rfl,s,figuresL,i,(by rw[fg_tx];rfl),by omega,hi,?_⟩
     refine⟨_,rfl,_,rfl,_,_,rfl,rfl,?_⟩
     exact done_ _ (zc6 (inL figuresL) s i) l st false false false H2 _ _ _ _ _ _ (by omega) r1 r2 hst2 hl ho h20 sm2 ma.symm
   |false=>
   rw[if_neg (by rw[c2];decide)] at ma
   refine zk5 ?_
   obtain⟨as,x1,x2⟩:=id hst2
   have hlen:((as.reverse.map V.ref).length:Int)=(st.length:Int):=by rw[List.length_map,List.length_reverse,x2.len]
   refine⟨_,rfl,l,_,rfl,.inl (SqL.of x1),_,_,rfl,rfl,_,rfl,?_⟩
   rw[hlen]
   have hd20:decide ((st.length:Int)<20)=decide (st.length<20):=by
    by_cases z:st.length<20
    ·rw[decide_eq_true z,decide_eq_true (by omega)]
    ·rw[decide_eq_false z,decide_eq_false (by omega)]
   rw[hd20]
   have len_rd:∀ {Qb:Bool→Hp→Prop} {σ':St},σ'[12]? = some (some (V.bl (zf1 c wa na)))→Qb (decide (st.length<20)&&zf1 c wa na) H2→if decide (st.length<20)=true then tB (zp1 12) σ' H2 Qb else Qb false H2:=by
    intro Qb σ' h12 k
    cases d:decide (st.length<20) with
    |false=>rw[d] at k;exact zk5 k
    |true=>rw[d] at k;exact zj4 ⟨_,h12,_,rfl,k⟩
   refine len_rd rfl ?_
   cases c3:(decide (st.length<20)&&zf1 c wa na) with
   |true=>
    rw[if_pos c3] at ma
    obtain⟨y1,y2⟩:=(Bool.and_eq_true _ _).mp c3
    have hc:c=40∨c=91:=by
     unfold zf1 at y2
     rcases(Bool.or_eq_true _ _).mp y2 with z|z
     ·exact .inl (of_decide_eq_true ((Bool.and_eq_true _ _).mp z).1)
     ·exact .inr (of_decide_eq_true ((Bool.and_eq_true _ _).mp z).1)
    have hl20:=of_decide_eq_true y1
    refine zj4 ?_
    refine fresh_rd rfl rfl ?_
    refine⟨_,rfl,.inl ⟨rfl,_,SqL.of x1⟩,fun p hp=>⟨za2,[(Sum.inr (Str.ofString "("),V.str (Str.ofString ")")),(Sum.inr (Str.ofString "["),V.str (Str.ofString "]"))],rfl,by decide,?_⟩⟩
    have g1:Same H2 (upd (upd H2 p (.dK [])) p (.dK (zo4 [] [(Sum.inr (Str.ofString "("),V.str (Str.ofString ")")),(Sum.inr (Str.ofString "["),V.str (Str.ofString "]"))]))):=fun b o e=>by
     rw[zb8 (zb6 e hp),zb8 (zb6 e hp)];exact e
    refine⟨_,rfl,p,V.str (tx [zf8 c]),rfl,.inl ⟨_,Sum.inr (tx [c]),Rd.of za2,rfl,(close_val hc).symm⟩,_,rfl,(by show 2≤sizeLine;decide),fun p2 hp2=>?_⟩
    have g2:=g1.trans (za6 hp2 (.tup [V.str (tx [zf8 c]),V.bl (zm2 c wa)]))
    have x1':=g2 _ _ x1
    refine⟨l,_,_,rfl,rfl,x1',Nat.lt_of_lt_of_le (show(as.reverse.map V.ref).length<21 by have:=x2.len;rw[List.length_map,List.length_reverse];omega) (zb7 (by omega)),_,rfl,_,rfl,_,_,rfl,rfl,?_⟩
    refine done_ _ (i+1) l ((zf8 c,zm2 c wa)::st) true (zm2 c wa) false _ _ _ _ _ _ _ rfl (by omega) (by omega) ⟨p2::as,?_,?_,?_⟩ hl (ho.cons (by unfold zf8;split<;>simp)) (by rw[List.length_cons];omega) ?_ ma.symm
    ·rw[za2,List.reverse_cons,List.map_append];rfl
    ·have np:p2≠l:=fun z=>by rw[z,g1 _ _ x1] at hp2;cases hp2
     show upd _ l _ p2=_
     rw[zb8 np,za2]
    ·refine(x2.mono (.of g2)).mono fun b xs e=>?_
     have nb:b≠l:=fun z=>by rw[z,x1'] at e;cases e
     rw[zb8 nb];exact e
    ·intro b o e
     have nb:b≠l:=zb6 e hl
     rw[zb8 nb]
     exact g2 _ _ (sm2 _ _ e)
   |false=>
   rw[if_neg (by rw[c3];decide)] at ma
   refine zk5 ⟨_,rfl,_,rfl,?_⟩
   cases c4:zg1 c st wa fr with
   |true=>
    rw[if_pos c4] at ma
    cases st with
    |nil=>cases c4
    |cons pr r=>
     obtain⟨kk,bb⟩:=pr
     obtain⟨as',a',z1,z2,z3⟩:=hst2.top
     refine zj4 ⟨_,rfl,1,rfl,-1,rfl,l,_,rfl,SqL.of z1,fun p hp=>?_⟩
     rw[cut_last]
     have g1:=za6 hp (.lst (as'.reverse.map V.ref))
     refine⟨_,rfl,_,rfl,_,_,rfl,rfl,?_⟩
     have hpn:H p=none:=by
      cases e:H p with
      |none=>rfl
      |some o=>have:=sm2 _ _ e;rw[hp] at this;cases this
     exact done_ _ (i+1) p r false false false _ _ _ _ _ _ _ rfl (by omega) (by omega) ⟨as',za2,z3.mono (.of g1)⟩ hpn (fun q hq=>ho q (List.mem_cons_of_mem _ hq)) (by rw[List.length_cons] at h20;omega) (sm2.trans g1) ma.symm
   |false=>
   rw[if_neg (by rw[c4];decide)] at ma
   refine zk5 ?_
   refine op_rd rfl rfl rfl ?_
   cases c5:(!wa&&(inL [43,45,42] c||(decide (c=44)&&zv3 st))) with
   |true=>
    rw[if_pos c5] at ma
    refine zj4 ⟨_,rfl,_,rfl,_,_,rfl,rfl,?_⟩
    exact done_ _ (i+1) l st true false false H2 _ _ _ _ _ _ rfl (by omega) (by omega) hst2 hl ho h20 sm2 ma.symm
   |false=>
    rw[if_neg (by rw[c5];decide)] at ma
    refine zk5 ⟨_,rfl,?_⟩
    have q:=q H2 sm2
    rw[←em,ma] at q
    exact q
 ·refine zp5 (fun z=>hlt (by have:=of_decide_eq_true z;omega)) ?_
  have q:=q H' sm
  rw[←em,yg2 (by omega)] at q
  refine⟨_,rfl,wa,rfl,?_⟩
  cases wa with
  |true=>
   refine zj4 (zj4 ⟨_,rfl,_,rfl,zb7 (by rw[ze4];omega),?_⟩)
   rw[ze4]
   exact q
  |false=>
   obtain⟨as,h1,h2⟩:=hst
   have hlen:=h2.len
   refine zk5 ⟨_,rfl,_,.inl ⟨_,SqL.of h1,rfl⟩,?_⟩
   cases st with
   |nil=>
    have ea:as=[]:=List.eq_nil_of_length_eq_zero hlen
    subst ea
    exact zk5 ⟨1,rfl,q⟩
   |cons p r=>
    have ea:((as.reverse.map V.ref).isEmpty)=false:=by
     cases as with
     |nil=>cases hlen
     |cons a as=>simp
    rw[ea]
    refine zj4 ⟨_,rfl,_,rfl,zb7 (by rw[ze4];omega),?_⟩
    rw[ze4]
    exact q
end
end Pq
namespace Pq
open PySem L2
section
variable {P:Program}{w:World}{K:PySem.W.Frag}{mg:Str→Option Value}{base:Heap}{f g:Addr}{fd gd:FuncData}
theorem scTree:FnScope ["_law_script","_law_k","_law_deep","_law_most","_law_number","_law_way","_law_names","_law_some","_law_parts","_law_one"] zl7 (zb2 sTree):=⟨rfl,rfl,rfl,by decide +kernel,rfl,by decide +kernel,by decide +kernel⟩
theorem ok_tree {n d most : Nat} {fm : Addr} {md : FuncData} (hn : 2 ≤ n) (hmost : most ≤ 100) (F : Fun K "_law_tree" "_law_tree" sTree f fd) (mF : mg "_law_tree" = some (.ref f)) (bF : Binds K fd zl7 []) (mr : mg "range" = none) (mt : mg "tuple" = none)
    (GM : FnOk P w K mg base CX0 2 fm md ["_law_script", "_law_k"] (spMix K)) (bM : Binds K md ["_law_script", "_law_k"] []) (kM : PySem.W.keepIn K (.ref fm) = true) (mM : mg "_law_mix" = some (.ref fm))
    (G : FnOk P w K mg base CX0 n f fd zl7 (zu6 K most d)) : FnOk P w K mg base CX0 (n + 1) f fd zl7 (zu6 K most (d + 1)) := by
  refine F.okq scTree (fun vs H Q E h => ?_) (fun cdv A outer s H vs Q E hr h => ?_)
  · obtain ⟨a, ns, k, rfl, _⟩ := h
    rfl
  obtain ⟨a, ns, k, rfl, hS, h63, q⟩ := h
  have hr2 : Room 2 _ := hr.mono hn
  have nd := scTree.nd
  refine ⟨_, za0 (zb1 (i := 4) nd rfl (Or.inl rfl) (zc2 GM hr2 rfl mM kM bM .nil zd2 (za4 (pvq 0) (za4 (pvq 1) za1)))) <|
    za0 (zb1 (i := 5) nd rfl (Or.inl rfl) (zb3 zf5 (pvq 4) za5)) <|
    za0 (ze9 (PW.ptq (pw_orq (zc5 zm9 (pvq 2) za5 (ze1 _)) (yf2 (zc5 zm9 (pvq 5) za5 (ze1 _)))))
      (za0 (zb1 (i := 6) nd rfl (Or.inl rfl) (ze0 (za3 za8 (za3 za8 (za3 za8 (za3 za8 (za3 za8 za1))))))) <|
       za0 (zb1 (i := 7) nd rfl (Or.inl rfl) (ze0 (zz0 (ze5 (za3 za8 (za3 za5 za1))) (zz0 (ze5 (za3 za8 (za3 za5 za1))) (zz0 (ze5 (za3 za8 (zf6 (zb3 zf5 (zb3 zl2 (pvq 4) za5) za5) za1))) za1))))) <|
       za7 (zc0 (zi5 (zc5 zm9 (zb3 zf5 (zb3 zl2 (pvq 4) za5) za5) za5 (ze1 _)) (ze5 (za3 za8 (zh9 (zd6 zi0 (pvq 6) (zb3 zf5 (zb3 zl2 (pvq 4) za5) za5) (fun _ _ => rfl)) za1)))
         (zd6 zi0 (pvq 7) (zb3 zf5 (zb3 zl2 (pvq 4) za5) za5) (fun _ _ => rfl))))) zc9) <|
    za0 (ze9 (zc5 yc2 (pvq 5) za5 (ze1 _))
      (za0 (zy6 (i := 8) (cl := [("_law_script", s.heap.objs.size + 1), ("_law_most", s.heap.objs.size + 4), ("_law_k", s.heap.objs.size + 2), ("_law_deep", s.heap.objs.size + 3)]) (ys := ["_law_script", "_law_k", "_law_deep", "_law_most"]) (js := [0, 1, 2, 3]) nd rfl (Or.inl rfl) rfl
          (zl3 rfl ⟨rfl, rfl, rfl, rfl, trivial⟩ (by decide) rfl (by decide +kernel) rfl (by decide +kernel) rfl ⟨⟨rfl, .inl rfl, ⟨_, rfl⟩, .inl rfl⟩, ⟨rfl, .inl rfl, ⟨_, rfl⟩, .inl rfl⟩, ⟨rfl, .inl rfl, ⟨_, rfl⟩, .inl rfl⟩, ⟨rfl, .inl rfl, ⟨_, rfl⟩, .inl rfl⟩, trivial⟩)
          (zk3 rfl mr (zf6 (zb3 zf5 (zb3 zl2 (pvq 4) za5) (zb3 zg7 (pvq 3) za5)) za1)) (fun _ _ _ _ => zr5)
          (fun _ _ _ _ => zc2 G hr rfl mF F.kp bF .nil zd2 (za4 (pvq 1) (zf6 (zb3 zg7 (zb3 zg7 (zb3 zs9 za5 (pvq 2)) za5) (pvq 0)) (zf6 (zb3 yj8 (pvq 3) za5) (za4 (pvq 4) za1)))))) <|
       za7 (zc0 (zi5 (zc5 yc2 (pvq 5) za5 (ze1 _)) (ze5 (za3 za8 (zh9 (zd6 zi0 (ze0 (za3 za8 (za3 za8 (za3 za8 za1)))) (zb3 zf5 (zb3 zl2 (pvq 4) za5) za5) (fun _ _ => rfl)) (zf4 (zh0 zl4 rfl mt PyProof.Rows.boot_tuple (za4 (pvq 8) za1)) za1))))
         (ze5 (za3 za8 (zf4 (zh0 zl4 rfl mt PyProof.Rows.boot_tuple (za4 (pvq 8) za1)) za1)))))) zc9) <|
    za0 (zb1 (i := 9) nd rfl (Or.inl rfl) (zc2 G hr rfl mF F.kp bF .nil zd2 (za4 (pvq 0) (zf6 (zb3 zg7 (zb3 zs9 za5 (pvq 1)) za5) (zf6 (zb3 yj8 (pvq 2) za5) (za4 (pvq 3) za1)))))) <|
    za7 (zc0 (ze5 (zh9 (zd6 zi0 (ze0 (za3 za8 (za3 za8 (za3 za8 (za3 za8 za1))))) (zb3 yj8 (pvq 5) za5) (fun _ _ => rfl)) (za4 (pvq 9) (zf4 (zc2 G hr rfl mF F.kp bF .nil zd2 (za4 (pvq 0) (zf6 (zb3 zg7 (zb3 zs9 za5 (pvq 1)) za5) (zf6 (zb3 yj8 (pvq 2) za5) (za4 (pvq 3) za1))))) za1))))), ?_⟩
  have hm := ym4 ns k
  refine ⟨_, rfl, _, rfl, a, ns, k, rfl, hS, h63, _, rfl, _, _, rfl, rfl, (by show (0 : Int) < 8; decide), ?_⟩
  have qd : ∀ (r : Addr) (H' : Hp), Same H H' → TreeAt H' (zd4 ns most d k) r → Q (.ref r) H' := q
  generalize hmm : mix ns k = m at hm ⊢
  have w0 : 0 ≤ m % 8 := Int.emod_nonneg _ (by decide)
  have w1 : m % 8 < 8 := Int.emod_lt_of_pos _ (by decide)
  have leaf : zd4 ns most d k = zn0 m → ∀ (r : Addr) (H' : Hp), Same H H' → TreeAt H' (zn0 m) r → Q (.ref r) H' := fun z r H' s1 s2 => qd r H' s1 (by rw [z]; exact s2)
  have nope : ∀ {i j : Int}, ¬ i = j → ¬ (decide (V.int i = V.int j) = true) := fun h z => h (V.int.inj (of_decide_eq_true z))
  have yep : ∀ {i j : Int}, i = j → decide (V.int i = V.int j) = true := fun h => decide_eq_true (congrArg V.int h)
  have ediv : ∀ {c : Int}, 0 ≤ m / 16 % 5 ∧ m / 16 % 5 < 5 := fun {c} => ⟨Int.emod_nonneg _ (by decide), Int.emod_lt_of_pos _ (by decide)⟩
  refine ⟨_, rfl, rfl, _, rfl, ?_⟩
  refine ite2 (fun c1 => ?g1) (fun c1 => ?g2)
  case' g2 => refine ⟨_, rfl, rfl, _, rfl, ?_⟩
  case' g2 => refine ite2 (fun c2 => ?g3) (fun c2 => ?g4)
  case' g3 =>
    have z : zd4 ns most d k = zn0 m := by
      have c3 : m % 8 = 0 := V.int.inj (of_decide_eq_true c2)
      rw [← hmm] at c3 ⊢
      cases d with
      | zero => rfl
      | succ d => unfold zd4; rw [if_pos c3]
  case' g1 =>
    have z : zd4 ns most d k = zn0 m := by
      have c3 : (d : Int) = 0 := V.int.inj (of_decide_eq_true c1)
      have c4 : d = 0 := by omega
      subst c4
      rw [← hmm]; rfl
    refine zj4 ?_
  case g1 | g3 =>
    replace leaf := leaf z
    refine ⟨(by show 5 ≤ sizeLine; decide), fun ln hln => ?_⟩
    have n1 := za6 hln (.lst [.str "a", .str "b", .str "xyz", .str "f", .str "abcdefghijklm"])
    refine ⟨(by show 2 ≤ sizeLine; decide), fun p1 hp1 => ⟨(by show 2 ≤ sizeLine; decide), fun p2 hp2 => ⟨_, rfl, _, _, rfl, rfl, ⟨by decide, by decide⟩, _, _, rfl, rfl, (by show (0 : Int) < 100000000000; decide), (by show 2 ≤ sizeLine; decide), fun p3 hp3 => ⟨(by show 3 ≤ sizeLine; decide), fun ls hls => ?_⟩⟩⟩⟩
    have t1 := za6 hp1 (.tup [.str "number", .int 0])
    have t2 := za6 hp2 (.tup [.str "number", .int 7])
    have t3 := za6 hp3 (.tup [.str "number", .int (m / 40 % 100000000000)])
    have t4 := za6 hls (.lst [.ref p1, .ref p2, .ref p3])
    have all := n1.trans (t1.trans (t2.trans (t3.trans t4)))
    refine ⟨_, rfl, _, _, rfl, rfl, ⟨by decide, by decide⟩, _, _, rfl, rfl, (by show (0 : Int) < 2; decide), rfl, _, rfl, ?_⟩
    by_cases hn0 : m / 8 % 2 = 0
    · refine zk4 (yep hn0) ?_
      refine ⟨_, rfl, _, rfl, _, _, rfl, rfl, ⟨by decide, by decide⟩, _, _, rfl, rfl, (by show (0 : Int) < 5; decide), ln, _, _, _, rfl, rfl, SqL.of ((t1.trans (t2.trans (t3.trans t4))) _ _ za2), yl1 (xs := [Str.ofString "a", Str.ofString "b", Str.ofString "xyz", Str.ofString "f", Str.ofString "abcdefghijklm"]) tx_names (ediv (c := 0)).1 (ediv (c := 0)).2, (by show 2 ≤ sizeLine; decide), fun t ht => ?_⟩
      refine leaf t _ (all.trans (za6 ht _)) ?_
      unfold zn0; rw [if_pos hn0]
      exact za2
    · refine zp5 (nope hn0) ?_
      have j0 : 0 ≤ m / 16 % 3 := Int.emod_nonneg _ (by decide)
      have j1 : m / 16 % 3 < 3 := Int.emod_lt_of_pos _ (by decide)
      refine ⟨_, rfl, _, rfl, _, _, rfl, rfl, ⟨by decide, by decide⟩, _, _, rfl, rfl, (by show (0 : Int) < 3; decide), ?_⟩
      have hi : m / 16 % 3 = 0 ∨ m / 16 % 3 = 1 ∨ m / 16 % 3 = 2 := by omega
      rcases hi with hi | hi | hi
      · refine ⟨ls, _, _, .ref p1, rfl, rfl, SqL.of za2, zu1 j0 (by rw [hi]; rfl), leaf p1 _ all ?_⟩
        unfold zn0; rw [if_neg hn0, if_pos hi]
        exact t4 _ _ (t3 _ _ (t2 _ _ za2))
      · refine ⟨ls, _, _, .ref p2, rfl, rfl, SqL.of za2, zu1 j0 (by rw [hi]; rfl), leaf p2 _ all ?_⟩
        unfold zn0; rw [if_neg hn0, if_neg (by rw [hi]; decide), if_pos hi]
        exact t4 _ _ (t3 _ _ za2)
      · refine ⟨ls, _, _, .ref p3, rfl, rfl, SqL.of za2, zu1 j0 (by rw [hi]; rfl), leaf p3 _ all ?_⟩
        unfold zn0; rw [if_neg hn0, if_neg (by rw [hi]; decide), if_neg (by rw [hi]; decide)]
        have e40 : (((m / 40 % 100000000000).toNat : Nat) : Int) = m / 40 % 100000000000 := Int.toNat_of_nonneg (Int.emod_nonneg _ (by decide))
        show _ = some (HO.tup [.str "number", .int (((m / 40 % 100000000000).toNat : Nat) : Int)])
        rw [e40]
        exact t4 _ _ za2
  case g4 =>
    have w2 : ¬ m % 8 = 0 := fun e => c2 (decide_eq_true (congrArg V.int e))
    have d1 : ¬ (d : Int) = 0 := fun e => c1 (decide_eq_true (congrArg V.int e))
    cases d with
    | zero => exact absurd rfl d1
    | succ d =>
      have ed : ((d + 1 : Nat) : Int) - 1 = (d : Int) := by omega
      have tcall : ∀ (k' : Int) (H1 : Hp), Same H H1 → (∀ (r : Addr) (H' : Hp), Same H1 H' → TreeAt H' (zd4 ns most d k') r → Q (.ref r) H') → True := fun _ _ _ _ => trivial
      refine ⟨_, rfl, _, _, rfl, rfl, _, rfl, ?_⟩
      refine ite2 (fun c4 => ?_) (fun c4 => ?_)
      · have c4' : m % 8 < 4 := of_decide_eq_true c4
        have p0 : (0 : Int) < (most : Int) + 1 := by omega
        have b0 : 0 ≤ m / 8 % ((most : Int) + 1) := Int.emod_nonneg _ (by omega)
        have b1 : m / 8 % ((most : Int) + 1) < (most : Int) + 1 := Int.emod_lt_of_pos _ p0
        refine ⟨_, rfl, _, _, rfl, rfl, ⟨by decide, by decide⟩, _, rfl, _, _, rfl, rfl, _, _, rfl, rfl, p0, _, rfl, by omega, by omega, fun L hL => ?_⟩
        refine zq1 (fun i H5 ys => ∃ as : List Addr, ys = as.map V.ref ∧ Same H H5 ∧ H5 L = some (.lst ys) ∧ TreesAt H5 ((List.range i).map fun j : Nat => zd4 ns most d (4 * k + 1 + (0 + (j : Int)))) as) ⟨[], rfl, za6 hL _, za2, rfl⟩ ?_ ?_
        · rintro i H5 ys hi ⟨as, rfl, s5, e5, p5⟩
          have hal := p5.len
          rw [List.length_map, List.length_range] at hal
          refine ⟨_, rfl, _, rfl, _, _, rfl, rfl, .inl ⟨by decide, by decide⟩, _, _, rfl, rfl, _, rfl, _, _, rfl, rfl, _, rfl, _, _, rfl, rfl, _, rfl, a, ns, 4 * k + 1 + (0 + (i : Int)), (by show [V.ref a, V.int (4 * k + 1 + (0 + (i : Int))), V.int (((d + 1 : Nat) : Int) - 1), V.int ((most : Nat) : Int)] = _; rw [ed]), s5.seq hS, h63, fun r H6 s6 P6 => ?_⟩
          refine ⟨s6 _ _ e5, small1000 (by rw [List.length_map]; omega), as ++ [r], by rw [List.map_append]; rfl, zm5 (s5.trans s6) hL _, za2, ?_⟩
          have u : Tups H6 (upd H6 L (.lst (as.map V.ref ++ [.ref r]))) := yh5 (s6 _ _ e5)
          rw [List.range_succ, List.map_append]
          exact TreesAt.snoc (TreesAt.mono ((Tups.of s6).trans u) p5) (P6.mono u)
        rintro H1 ys ⟨as, rfl, s1, e1, p1⟩
        refine ⟨_, rfl, _, _, rfl, rfl, _, rfl, ?_⟩
        refine ite2 (fun c5 => ?_) (fun c5 => ?_)
        · have c5' : m % 8 < 3 := of_decide_eq_true c5
          have i0 : 0 ≤ m / 64 % 3 := Int.emod_nonneg _ (by decide)
          have i1 : m / 64 % 3 < 3 := Int.emod_lt_of_pos _ (by decide)
          refine ⟨(by show 3 ≤ sizeLine; decide), fun l2 hl2 => ?_⟩
          have t2 := za6 hl2 (.lst [.str "f", .str "gg", .str "print"])
          refine ⟨_, rfl, _, _, rfl, rfl, ⟨by decide, by decide⟩, _, _, rfl, rfl, (by show (0 : Int) < 3; decide), l2, _, _, _, rfl, rfl, SqL.of za2, yl1 (xs := [Str.ofString "f", Str.ofString "gg", Str.ofString "print"]) tx_calls i0 i1, ?_⟩
          refine ⟨_, rfl, L, _, rfl, .inl ⟨SqL.of (t2 _ _ e1), fun l3 hl3 => ?_⟩⟩
          have t3 := za6 hl3 (.tup (as.map V.ref))
          refine ⟨(by show 3 ≤ sizeLine; decide), fun t ht => ?_⟩
          have t4 := za6 ht (.tup [.str "call", .str (tx (calls3.getD (m / 64 % 3).toNat [])), .ref l3])
          refine qd t _ (s1.trans (t2.trans (t3.trans t4))) ?_
          unfold zd4; rw [hmm, if_neg w2, if_pos c4', if_pos c5']
          exact ⟨l3, as, za2, t4 _ _ za2, TreesAt.mono (.of (t2.trans (t3.trans t4))) p1⟩
        · have c5' : ¬ m % 8 < 3 := fun e => c5 (decide_eq_true e)
          refine ⟨_, rfl, L, _, rfl, .inl ⟨SqL.of e1, fun l3 hl3 => ?_⟩⟩
          have t3 := za6 hl3 (.tup (as.map V.ref))
          refine ⟨(by show 2 ≤ sizeLine; decide), fun t ht => ?_⟩
          have t4 := za6 ht (.tup [.str "row", .ref l3])
          refine qd t _ (s1.trans (t3.trans t4)) ?_
          unfold zd4; rw [hmm, if_neg w2, if_pos c4', if_neg c5']
          exact ⟨l3, as, za2, t4 _ _ za2, TreesAt.mono (.of (t3.trans t4)) p1⟩
      · have c4' : ¬ m % 8 < 4 := fun e => c4 (decide_eq_true e)
        refine ⟨_, rfl, _, rfl, _, _, rfl, rfl, .inl ⟨by decide, by decide⟩, _, _, rfl, rfl, _, rfl, _, _, rfl, rfl, _, rfl, a, ns, 4 * k + 1, (by show [V.ref a, V.int (4 * k + 1), V.int (((d + 1 : Nat) : Int) - 1), V.int ((most : Nat) : Int)] = _; rw [ed]), hS, h63, fun r1 H1 s1 P1 => ?_⟩
        refine ⟨(by show 4 ≤ sizeLine; decide), fun l hl => ?_⟩
        have t1 := za6 hl (.lst [.str "+", .str "-", .str "*", .str "*"])
        refine ⟨_, rfl, _, _, rfl, rfl, l, _, _, _, rfl, rfl, SqL.of za2, at_ops (by omega) (by omega), _, rfl, ?_⟩
        refine ⟨_, rfl, _, rfl, _, _, rfl, rfl, .inl ⟨by decide, by decide⟩, _, _, rfl, rfl, _, rfl, _, _, rfl, rfl, _, rfl, a, ns, 4 * k + 2, (by show [V.ref a, V.int (4 * k + 2), V.int (((d + 1 : Nat) : Int) - 1), V.int ((most : Nat) : Int)] = _; rw [ed]), (s1.trans t1).seq hS, h63, fun r2 H2 s2 P2 => ?_⟩
        refine ⟨(by show 3 ≤ sizeLine; decide), fun t ht => ?_⟩
        have t4 := za6 ht (.tup [.str (tx [ops4.getD (m % 8 - 4).toNat 0]), .ref r1, .ref r2])
        refine qd t _ (s1.trans (t1.trans (s2.trans t4))) ?_
        unfold zd4; rw [hmm, if_neg w2, if_neg c4']
        exact ⟨r1, r2, za2, P1.mono (.of (t1.trans (s2.trans t4))), P2.mono (.of t4)⟩
end
end Pq
namespace Pq
theorem yk7:∀n,n<10→(Nat.digitChar n).toNat=n+48:=by decide
theorem zp8{n:Nat}(h:n<10):ya0 n=[n+48]:=by
 unfold ya0
 rw[Nat.toDigits_of_lt_base h]
 simp[yk7 n h]
theorem zz9{n:Nat}(h:10≤n):ya0 n=ya0 (n / 10)++[n % 10+48]:=by
 unfold ya0
 rw[Nat.toDigits_of_base_le (by decide) h,List.map_append]
 simp[yk7 (n % 10) (Nat.mod_lt _ (by decide))]
theorem fig_of:∀n,n<10→n+48∈figuresL:=by decide
theorem zr8(n:Nat):∀c∈ya0 n,c∈figuresL:=by
 induction n using Nat.strongRecOn with
 |ind n ih=>
  by_cases h:n<10
  ·rw[zp8 h]
   intro c hc
   rw[List.mem_singleton.mp hc]
   exact fig_of n h
  ·rw[zz9 (by omega)]
   intro c hc
   rcases List.mem_append.mp hc with z|z
   ·exact ih (n / 10) (by omega) c z
   ·rw[List.mem_singleton.mp z]
    exact fig_of _ (Nat.mod_lt _ (by decide))
theorem yn3(n:Nat):zh7 (ya0 n)=n:=by
 induction n using Nat.strongRecOn with
 |ind n ih=>
  by_cases h:n<10
  ·rw[zp8 h];unfold zh7;simp
  ·rw[zz9 (by omega)]
   unfold zh7
   rw[List.foldl_append]
   have:=ih (n / 10) (by omega)
   unfold zh7 at this
   rw[this]
   simp
   omega
theorem zt9(n:Nat):∃c r,ya0 n=c::r∧(n≠0→c≠48):=by
 induction n using Nat.strongRecOn with
 |ind n ih=>
  by_cases h:n<10
  ·exact⟨_,_,zp8 h,fun z=>by omega⟩
  ·obtain⟨c,r,e,hc⟩:=ih (n / 10) (by omega)
   refine⟨c,r++[n % 10+48],by rw[zz9 (by omega),e];rfl,fun _=>hc (by omega)⟩
theorem digs_zero:ya0 0=[48]:=by decide
theorem digs_len{n:Nat}(h:n<10 ^ 11):(ya0 n).length≤11:=by
 unfold ya0
 rw[List.length_map]
 exact PySem.toDigits_len_pow (by decide) (by decide) h
def zc3(x:List Nat):List Nat:=x.dropWhile (inL blanksL)
theorem drop_run(f:Nat→Bool)(s:List Nat)(i:Nat):s.drop (zc6 f s i)=(s.drop i).dropWhile f:=by
 unfold zc6
 rw[←List.drop_drop]
 generalize s.drop i=x
 induction x with
 |nil=>rfl
 |cons c x ih=>
  rw[List.takeWhile_cons,List.dropWhile_cons]
  cases f c with
  |true=>simpa using ih
  |false=>rfl
theorem zh6(s:List Nat)(i:Nat):s.drop (zb4 s i)=zc3 (s.drop i):=drop_run _ s i
def hP(f:Nat→Bool)(x:List Nat):Bool:=match x with
 |c::_=>f c
 |[]=>false
theorem ya3(f:Nat→Bool)(s:List Nat)(i:Nat):atP f s i=hP f (s.drop i):=by
 unfold atP
 have e:s[i]? = (s.drop i)[0]? :=by rw[List.getElem?_drop];simp
 rw[e]
 cases s.drop i<;>rfl
theorem zs0(f:Nat→Bool)(s:List Nat)(i:Nat):atP f s (zb4 s i)=hP f (zc3 (s.drop i)):=by rw[ya3,zh6]
theorem zw3{c:Nat}{x:List Nat}(h:inL blanksL c=false):zc3 (c::x)=c::x:=by
 unfold zc3;rw[List.dropWhile_cons,h];rfl
theorem zw4:∀ {x:List Nat} {c:Nat} {y:List Nat},zc3 x=c::y→inL blanksL c=false
 |[],_,_,h=>by cases h
 |a::x,c,y,h=>by
  unfold zc3 at h
  rw[List.dropWhile_cons] at h
  cases q:inL blanksL a with
  |true=>rw[q] at h;exact zw4 (x:=x) h
  |false=>rw[q] at h;cases h;exact q
theorem zn7(x:List Nat):zc3 (zc3 x)=zc3 x:=by
 cases q:zc3 x with
 |nil=>rfl
 |cons c y=>exact zw3 (zw4 q)
theorem yd4{s:List Nat}{i c:Nat}{x:List Nat}(h:s.drop i=c::x):s[i]? = some c∧s.drop (i+1)=x:=by
 have e:(s.drop i)[0]? = some c:=by rw[h];rfl
 rw[List.getElem?_drop] at e
 refine⟨by simpa using e,?_⟩
 rw[Nat.add_comm,←List.drop_drop] at*
 have:(s.drop i).drop 1=x:=by rw[h];rfl
 rw[List.drop_drop] at this ⊢
 rw[Nat.add_comm];exact this
inductive Toks:List Nat→List (List Nat)→List Nat→Prop
 |nil {x y:List Nat}:zc3 x=zc3 y→Toks x [] y
 |cons {x w x' y:List Nat} {ws:List (List Nat)}:zc3 x=w++x'→Toks x' ws y→Toks x (w::ws) y
theorem Toks.from{x x2 y:List Nat}{ws:List (List Nat)}(h:Toks x ws y)(e:zc3 x2=zc3 x):Toks x2 ws y:=by
 cases h with
 |nil q=>exact .nil (e.trans q)
 |cons q t=>exact .cons (e.trans q) t
theorem Toks.split:∀ {ws vs:List (List Nat)} {x y:List Nat},Toks x (ws++vs) y→∃z,Toks x ws z∧Toks z vs y
 |[],_,x,_,h=>⟨x,.nil rfl,h⟩
 |w::ws,vs,x,y,h=>by
  cases h with
  |cons q t=>
   obtain⟨z,a,b⟩:=Toks.split (ws:=ws) t
   exact⟨z,.cons q a,b⟩
theorem Toks.one{w x y:List Nat}(h:Toks x [w] y):∃x',zc3 x=w++x'∧zc3 x'=zc3 y:=by
 cases h with
 |cons q t=>cases t with
  |nil e=>exact⟨_,q,e⟩
def Fol(zs:List Nat)(y:List Nat):Prop:=∀c r,zc3 y=c::r→c∈zs
abbrev folS:List Nat:=[41,93,44]
abbrev folP:List Nat:=[41,93,44,43,45]
abbrev folO:List Nat:=[41,93,44,43,45,42]
theorem Fol.mono{zs zs':List Nat}{y:List Nat}(h:Fol zs y)(s:∀c∈zs,c∈zs'):Fol zs' y:=fun c r e=>s c (h c r e)
theorem Fol.word{zs:List Nat}{c:Nat}{y y':List Nat}{ws:List (List Nat)}(t:Toks y ([c]::ws) y')(h:c∈zs):Fol zs y:=fun c' r e=>by
 cases t with
 |cons q _=>
  rw[e] at q
  cases q
  exact h
theorem Fol.no{zs:List Nat}{f:Nat→Bool}{y:List Nat}(h:Fol zs y)(hf:∀c∈zs,f c=false):hP f (zc3 y)=false:=by
 cases q:zc3 y with
 |nil=>rfl
 |cons c r=>exact hf c (h c r q)
theorem Fol.stop{zs:List Nat}{f:Nat→Bool}{x y:List Nat}(h:Fol zs y)(e:zc3 x=zc3 y)(hf:∀c∈zs,f c=false)(hb:∀c,inL blanksL c=true→f c=false):x.takeWhile f=[]:=by
 cases x with
 |nil=>rfl
 |cons c x=>
  rw[List.takeWhile_cons]
  have:f c=false:=by
   cases q:inL blanksL c with
   |true=>exact hb c q
   |false=>rw[zw3 q] at e;exact hf c (h c x e.symm)
  rw[this];rfl
theorem ya4{f:Nat→Bool}:∀ {w x:List Nat},(∀c∈w,f c=true)→x.takeWhile f=[]→(w++x).takeWhile f=w
 |[],x,_,h=>h
 |c::w,x,hw,h=>by
  rw[List.cons_append,List.takeWhile_cons,hw c List.mem_cons_self]
  show c::_=_
  rw[ya4 (fun c hc=>hw c (List.mem_cons_of_mem _ hc)) h]
theorem zy2{f:Nat→Bool}{s w x:List Nat}{k:Nat}(e:s.drop k=w++x)(hw:∀c∈w,f c=true)(h:x.takeWhile f=[]):zc6 f s k=k+w.length∧cutS s k (zc6 f s k)=w∧s.drop (zc6 f s k)=x:=by
 have e1:zc6 f s k=k+w.length:=by unfold zc6;rw[e,ya4 hw h]
 refine⟨e1,?_,?_⟩
 ·unfold cutS
  rw[e1,e]
  have:k+w.length - k=w.length:=by omega
  rw[this];simp
 ·rw[e1,←List.drop_drop,e];simp
theorem ye0{zs:List Nat}(h:∀c∈zs,inL blanksL c=false):∀c,inL blanksL c=true→inL zs c=false:=fun c hc=>by
 cases q:inL zs c with
 |false=>rfl
 |true=>
  have:=h c (by simpa [inL] using q)
  rw[hc] at this;cases this
theorem zi9{r r':Option Res}{k k':Tr→Nat→Option Res}{x:Res}(h:zd0 r k=some x)(h1:∀y,r=some y→r'=some y)(h2:∀t j y,k t j=some y→k' t j=some y):zd0 r' k'=some x:=by
 rcases zb9 h with⟨t,j,e1,e2⟩|⟨p,e1,e2⟩
 ·rw[h1 _ e1];exact h2 t j x e2
 ·rw[h1 _ e1,e2];rfl
theorem zv4{r r':Option Res}{k k':List Tr→Nat→Option Res}{x:Res}(h:zi8 r k=some x)(h1:∀y,r=some y→r'=some y)(h2:∀t j y,k t j=some y→k' t j=some y):zi8 r' k'=some x:=by
 rcases zg3 h with⟨t,j,e1,e2⟩|⟨p,e1,e2⟩
 ·rw[h1 _ e1];exact h2 t j x e2
 ·rw[h1 _ e1,e2];rfl
theorem nameGo_up{G G':Job→Nat→Nat→Option Res}(hG:∀job d i y,G job d i=some y→G' job d i=some y){s:List Nat}{d k:Nat}{r:Res}(h:zm0 G s d k=some r):zm0 G' s d k=some r:=by
 unfold zm0 at h ⊢
 split at h
 ·rename_i c;rw[if_pos c];exact zv4 h (fun y e=>hG _ _ _ y e) fun _ _ _ e=>e
 ·rename_i c;rw[if_neg c];exact h
theorem opndGo_up{G G':Job→Nat→Nat→Option Res}(hG:∀job d i y,G job d i=some y→G' job d i=some y){s:List Nat}{d k:Nat}{r:Res}(h:zi7 G s d k=some r):zi7 G' s d k=some r:=by
 unfold zi7 at h ⊢
 split at h
 ·rename_i c;rw[if_pos c];exact nameGo_up hG h
 ·rename_i c;rw[if_neg c]
  split at h
  ·rename_i c;rw[if_pos c];exact h
  ·rename_i c;rw[if_neg c]
   split at h
   ·rename_i c;rw[if_pos c];exact zv4 h (fun y e=>hG _ _ _ y e) fun _ _ _ e=>e
   ·rename_i c;rw[if_neg c]
    split at h
    ·rename_i c;rw[if_pos c]
     split at h
     ·rename_i c;rw[if_pos c];exact h
     ·rename_i c;rw[if_neg c];exact zi9 h (fun y e=>hG _ _ _ y e) fun _ _ _ e=>e
    ·rename_i c;rw[if_neg c];exact h
theorem zo9(s:List Nat):∀(n:Nat) (job:Job) (d i:Nat) (r:Res),go s n job d i=some r→go s (n+1) job d i=some r
 |0,_,_,_,_,h=>by cases h
 |n+1,.sum,d,i,r,h=>zi9 (r':=go s (n+1) .prod d i) h (fun y e=>zo9 s n _ d i y e) fun t j y e=>zo9 s n _ d j y e
 |n+1,.prod,d,i,r,h=>zi9 (r':=go s (n+1) .opnd d i) h (fun y e=>zo9 s n _ d i y e) fun t j y e=>zo9 s n _ d j y e
 |n+1,.sumL t,d,i,r,h=>by
  unfold go at h ⊢
  split at h
  ·rename_i c;rw[if_pos c];exact zi9 h (fun y e=>zo9 s n _ _ _ y e) fun t j y e=>zo9 s n _ _ _ y e
  ·rename_i c;rw[if_neg c];exact h
 |n+1,.prodL t,d,i,r,h=>by
  unfold go at h ⊢
  split at h
  ·rename_i c;rw[if_pos c];exact zi9 h (fun y e=>zo9 s n _ _ _ y e) fun t j y e=>zo9 s n _ _ _ y e
  ·rename_i c;rw[if_neg c];exact h
 |n+1,.opnd,d,i,r,h=>by
  unfold go at h ⊢
  exact opndGo_up (fun job d i y e=>zo9 s n job d i y e) h
 |n+1,.parts c,d,i,r,h=>by
  unfold go at h ⊢
  split at h
  ·rename_i c;rw[if_pos c];exact h
  ·rename_i c;rw[if_neg c]
   split at h
   ·rename_i c;rw[if_pos c];exact h
   ·rename_i c;rw[if_neg c];exact zi9 h (fun y e=>zo9 s n _ _ _ y e) fun t j y e=>zo9 s n _ _ _ y e
 |n+1,.partsL c ts,d,i,r,h=>by
  unfold go at h ⊢
  split at h
  ·rename_i c;rw[if_pos c];exact zi9 h (fun y e=>zo9 s n _ _ _ y e) fun t j y e=>zo9 s n _ _ _ y e
  ·rename_i c;rw[if_neg c];exact h
theorem go_mono{s:List Nat}{n m:Nat}{job:Job}{d i:Nat}{r:Res}(h:go s n job d i=some r)(hm:n≤m):go s m job d i=some r:=by
 induction hm with
 |refl=>exact h
 |step _ ih=>exact zo9 s _ job d i r ih
def Goes(s:List Nat)(job:Job)(d i:Nat)(r:Res):Prop:=∃n,go s n job d i=some r
section
variable {s:List Nat}{d i j:Nat}{t u:Tr}{r:Res}
theorem two{job job':Job}{d' i':Nat}{r':Res}(h:Goes s job d i r)(h':Goes s job' d' i' r'):∃n,go s n job d i=some r∧go s n job' d' i'=some r':=by
 obtain⟨n,e⟩:=h
 obtain⟨m,e'⟩:=h'
 exact⟨max n m,go_mono e (Nat.le_max_left _ _),go_mono e' (Nat.le_max_right _ _)⟩
theorem yk3(h:Goes s .prod d i (.tree t j))(h':Goes s (.sumL t) d j r):Goes s .sum d i r:=by
 obtain⟨n,e,e'⟩:=two h h'
 exact⟨n+1,by show zd0 _ _=_;rw[e];exact e'⟩
theorem zo8(h:Goes s .opnd d i (.tree t j))(h':Goes s (.prodL t) d j r):Goes s .prod d i r:=by
 obtain⟨n,e,e'⟩:=two h h'
 exact⟨n+1,by show zd0 _ _=_;rw[e];exact e'⟩
theorem goes_sumE(h:atP (inL [43,45]) s (zb4 s i)=false):Goes s (.sumL t) d i (.tree t (zb4 s i)):=⟨1,by unfold go;rw[if_neg (by rw[h];decide)]⟩
theorem yn0(h:atP (inL [42]) s (zb4 s i)=false):Goes s (.prodL t) d i (.tree t (zb4 s i)):=⟨1,by unfold go;rw[if_neg (by rw[h];decide)]⟩
theorem goes_sumL{c:Nat}(hc:s[zb4 s i]? = some c)(h:c∈[43,45])(h1:Goes s .prod d (zb4 s i+1) (.tree u j))(h2:Goes s (.sumL (.bin c t u)) d j r):Goes s (.sumL t) d i r:=by
 obtain⟨n,e,e'⟩:=two h1 h2
 refine⟨n+1,?_⟩
 unfold go
 rw[if_pos (by rw[zc4 hc];simpa [inL] using h),e]
 have:s.getD (zb4 s i) 0=c:=by rw[List.getD_eq_getElem?_getD,hc];rfl
 rw[this];exact e'
theorem ym9{c:Nat}(hc:s[zb4 s i]? = some c)(h:c∈[42])(h1:Goes s .opnd d (zb4 s i+1) (.tree u j))(h2:Goes s (.prodL (.bin c t u)) d j r):Goes s (.prodL t) d i r:=by
 obtain⟨n,e,e'⟩:=two h1 h2
 refine⟨n+1,?_⟩
 unfold go
 rw[if_pos (by rw[zc4 hc];simpa [inL] using h),e]
 have:s.getD (zb4 s i) 0=c:=by rw[List.getD_eq_getElem?_getD,hc];rfl
 rw[this];exact e'
end
mutual
def Wf:Tr→Prop
 |.name s=>s≠[]∧∀c∈s,c∈zb0
 |.num _=>True
 |.call s ts=>(s≠[]∧∀c∈s,c∈zb0)∧Wfs ts
 |.row ts=>Wfs ts
 |.bin op a b=>(op=42∨op=43∨op=45)∧Wf a∧Wf b
def Wfs:List Tr→Prop
 |[]=>True
 |t::ts=>Wf t∧Wfs ts
end
def startL:List Nat:=[40,91]++zb0++figuresL
theorem zu3:∀t:Tr,Wf t→∃c w ws,za9 t=(c::w)::ws∧c∈startL
 |.name nm,h=>by
  cases nm with
  |nil=>exact absurd rfl h.1
  |cons c w=>exact⟨c,w,[],rfl,List.mem_append_left _ (List.mem_append_right _ (h.2 c List.mem_cons_self))⟩
 |.num n,_=>by
  obtain⟨c,r,e,_⟩:=zt9 n
  exact⟨c,r,[],by show[ya0 n]=_;rw[e],List.mem_append_right _ (zr8 n c (by rw[e];exact List.mem_cons_self))⟩
 |.call nm ts,h=>by
  cases nm with
  |nil=>exact absurd rfl h.1.1
  |cons c w=>exact⟨c,w,_,rfl,List.mem_append_left _ (List.mem_append_right _ (h.1.2 c List.mem_cons_self))⟩
 |.row ts,_=>⟨91,[],_,rfl,by decide⟩
 |.bin op a b,h=>by
  obtain⟨c,w,ws,e,hc⟩:=zu3 a h.2.1
  unfold za9
  split
  ·split
   ·exact⟨40,[],_,rfl,by decide⟩
   ·exact⟨c,w,_,by rw[e];rfl,hc⟩
  ·exact⟨c,w,_,by rw[e];rfl,hc⟩
end Pq
namespace Pq
structure Reads(s:List Nat)(t:Tr):Prop where
 sum:∀d i y,d+t.deep≤20→Toks (s.drop i) (za9 t) y→Fol folP y→∃j,zc3 (s.drop j)=zc3 y∧∀r,Goes s (.sumL t) d j r→Goes s .sum d i r
 prod:zo6 t=false→∀d i y,d+t.deep≤20→Toks (s.drop i) (za9 t) y→Fol folO y→∃j,zc3 (s.drop j)=zc3 y∧∀r,Goes s (.prodL t) d j r→Goes s .prod d i r
 opnd:isOp t=false→∀d i y,d+t.deep≤20→Toks (s.drop i) (za9 t) y→Fol folO y→∃j,zc3 (s.drop j)=zc3 y∧Goes s .opnd d i (.tree t j)
section
variable {s:List Nat}{t:Tr}{d i:Nat}{y:List Nat}
theorem zr4{j:Nat}(h:zc3 (s.drop j)=zc3 y)(hf:Fol folP y):Goes s (.prodL t) d j (.tree t (zb4 s j)):=yn0 (by rw[zs0,h];exact hf.no (by decide))
theorem zl6{j:Nat}(h:zc3 (s.drop j)=zc3 y):zc3 (s.drop (zb4 s j))=zc3 y:=by rw[zh6,zn7,h]
theorem Reads.prodE(R:Reads s t)(h:zo6 t=false)(hd:d+t.deep≤20)(ht:Toks (s.drop i) (za9 t) y)(hf:Fol folP y):∃j,zc3 (s.drop j)=zc3 y∧Goes s .prod d i (.tree t j):=by
 obtain⟨j,e,k⟩:=R.prod h d i y hd ht (hf.mono (by decide))
 exact⟨zb4 s j,zl6 e,k _ (zr4 e hf)⟩
theorem Reads.sumE(R:Reads s t)(hd:d+t.deep≤20)(ht:Toks (s.drop i) (za9 t) y)(hf:Fol folS y):∃j,zc3 (s.drop j)=zc3 y∧Goes s .sum d i (.tree t j):=by
 obtain⟨j,e,k⟩:=R.sum d i y hd ht (hf.mono (by decide))
 exact⟨zb4 s j,zl6 e,k _ (goes_sumE (by rw[zs0,e];exact hf.no (by decide)))⟩
theorem zk8{c:Nat}{z:List Nat}{j:Nat}(h:Toks z [[c]] y)(e:zc3 (s.drop j)=zc3 z):s[zb4 s j]? = some c∧zc3 (s.drop (zb4 s j+1))=zc3 y:=by
 obtain⟨x2,e1,e2⟩:=h.one
 have e3:s.drop (zb4 s j)=c::x2:=by rw[zh6,e,e1];rfl
 obtain⟨q1,q2⟩:=yd4 e3
 exact⟨q1,by rw[q2,e2]⟩
theorem brk_goes{k j:Nat}(hk:s[k]? = some 40)(hi:zb4 s i=k)(hd:d≠20)(h:Goes s .sum (d+1) (k+1) (.tree t j))(hj:s[zb4 s j]? = some 41):Goes s .opnd d i (.tree t (zb4 s j+1)):=by
 obtain⟨n,e⟩:=h
 refine⟨n+1,?_⟩
 unfold go zi7
 rw[hi,if_neg (by rw[zc4 hk];decide),if_neg (by rw[zc4 hk];decide),if_neg (by rw[zc4 hk];decide),if_pos (by rw[zc4 hk];decide),if_neg hd,e]
 show(if _ then _ else _)=_
 rw[if_pos (by rw[zc4 hj];decide)]
theorem Reads.brk(R:Reads s t)(hd:d+1+t.deep≤20)(ht:Toks (s.drop i) ([[40]]++za9 t++[[41]]) y):∃j,zc3 (s.drop j)=zc3 y∧Goes s .opnd d i (.tree t j):=by
 obtain⟨z,h1,h2⟩:=Toks.split ht
 obtain⟨z0,h0,h1⟩:=Toks.split h1
 obtain⟨q1,q2⟩:=zk8 h0 rfl
 obtain⟨j,e,g⟩:=R.sumE (d:=d+1) (i:=zb4 s i+1) hd (h1.from q2) (Fol.word h2 (by decide))
 obtain⟨q3,q4⟩:=zk8 h2 e
 exact⟨zb4 s j+1,q4,brk_goes q1 rfl (by omega) g q3⟩
theorem zm6(h0:isOp t=false)(h:∀d i y,d+t.deep≤20→Toks (s.drop i) (za9 t) y→Fol folO y→∃j,zc3 (s.drop j)=zc3 y∧Goes s .opnd d i (.tree t j)):Reads s t:=by
 refine⟨fun d i y hd ht hf=>?_,fun _ d i y hd ht hf=>?_,fun _=>h⟩
 ·obtain⟨j,e,g⟩:=h d i y hd ht (hf.mono (by decide))
  exact⟨zb4 s j,zl6 e,fun r g2=>yk3 (zo8 g (zr4 e hf)) g2⟩
 ·obtain⟨j,e,g⟩:=h d i y hd ht hf
  exact⟨j,e,fun r g2=>zo8 g g2⟩
end
def zj9:List Tr→List (List Nat)
 |[]=>[]
 |t::ts=>[[44]]++za9 t++zj9 ts
theorem zq2:∀(t:Tr) (ts:List Tr),zb5 (t::ts)=za9 t++zj9 ts
 |t,[]=>by simp[zb5,zj9]
 |t,u::ts=>by
  show za9 t++[[44]]++zb5 (u::ts)=_
  rw[zq2 u ts]
  simp[zj9]
theorem Fol.comma{ts:List Tr}{c:Nat}{z y:List Nat}(hc:c=41∨c=93)(h:Toks z (zj9 ts++[[c]]) y):Fol folS z:=by
 cases ts with
 |nil=>exact Fol.word h (by rcases hc with rfl|rfl<;>decide)
 |cons t ts=>exact Fol.word (c:=44) (ws:=za9 t++zj9 ts++[[c]]) (by simpa [zj9] using h) (by decide)
section
variable {s:List Nat}{d:Nat}
theorem zs8{c:Nat}(hc:c=41∨c=93):∀(ts acc:List Tr) (i:Nat) (y:List Nat),(∀t∈ts,Reads s t)→d+1+Tr.deeps ts≤20→Toks (s.drop i) (zj9 ts++[[c]]) y→∃j,zc3 (s.drop j)=zc3 y∧Goes s (.partsL c acc) d i (.trees (acc++ts) j)
 |[],acc,i,y,_,_,h=>by
  obtain⟨q1,q2⟩:=zk8 (s:=s) (j:=i) h rfl
  refine⟨_,q2,1,?_⟩
  unfold go
  rw[if_neg (by rw[zc4 q1];rcases hc with rfl|rfl<;>decide),if_pos (by rw[zc4 q1];simp[inL]),List.append_nil]
 |t::ts,acc,i,y,hR,hd,h=>by
  have hd':max t.deep (Tr.deeps ts)=Tr.deeps (t::ts):=rfl
  have h:Toks (s.drop i) ([[44]]++(za9 t++(zj9 ts++[[c]]))) y:=by simpa [zj9] using h
  obtain⟨z0,h0,h⟩:=Toks.split h
  obtain⟨z,h1,h2⟩:=Toks.split h
  obtain⟨q1,q2⟩:=zk8 (s:=s) (j:=i) h0 rfl
  obtain⟨j,e,g⟩:=(hR t List.mem_cons_self).sumE (d:=d+1) (i:=zb4 s i+1) (by omega) (h1.from q2) (Fol.comma hc h2)
  obtain⟨j',e',g'⟩:=zs8 hc ts (acc++[t]) j y (fun x hx=>hR x (List.mem_cons_of_mem _ hx)) (by omega) (h2.from e)
  obtain⟨n,e1,e2⟩:=two g g'
  refine⟨j',e',n+1,?_⟩
  unfold go
  rw[if_pos (by rw[zc4 q1];decide),e1]
  show go s n (.partsL c (acc++[t])) d j=_
  rw[e2,List.append_assoc];rfl
theorem zv2{c o:Nat}(hc:c=41∨c=93){ts:List Tr}{i:Nat}{x y:List Nat}(hR:∀t∈ts,Reads s t)(hw:Wfs ts)(hd:d+1+Tr.deeps ts≤20)(hx:zc3 (s.drop (i+1))=zc3 x)(h:Toks x (zb5 ts++[[c]]) y):∃j,zc3 (s.drop j)=zc3 y∧Goes s (.parts c) d i (.trees ts j):=by
 have h:=h.from hx
 cases ts with
 |nil=>
  obtain⟨q1,q2⟩:=zk8 (s:=s) (j:=i+1) (show Toks _ [[c]] y from h) rfl
  refine⟨_,q2,1,?_⟩
  unfold go
  rw[if_neg (by omega),if_pos (by rw[zc4 q1];simp[inL])]
 |cons t ts=>
  have hd':max t.deep (Tr.deeps ts)=Tr.deeps (t::ts):=rfl
  rw[zq2,List.append_assoc] at h
  obtain⟨z,h1,h2⟩:=Toks.split h
  have hno:atP (inL [c]) s (zb4 s (i+1))=false:=by
   obtain⟨c0,w0,ws0,e0,hc0⟩:=zu3 t hw.1
   rw[e0] at h1
   cases h1 with
   |cons q _=>
    rw[zs0,q]
    show inL [c] c0=false
    rcases hc with rfl|rfl
    ·exact(by decide:∀c∈startL,inL [41] c=false) c0 hc0
    ·exact(by decide:∀c∈startL,inL [93] c=false) c0 hc0
  obtain⟨j,e,g⟩:=(hR t List.mem_cons_self).sumE (d:=d+1) (i:=zb4 s (i+1)) (by omega) (h1.from (by rw[zh6,zn7])) (Fol.comma hc h2)
  obtain⟨j',e',g'⟩:=zs8 (d:=d) hc ts [t] j y (fun x hx=>hR x (List.mem_cons_of_mem _ hx)) (by omega) (h2.from e)
  obtain⟨n,e1,e2⟩:=two g g'
  refine⟨j',e',n+1,?_⟩
  unfold go
  rw[if_neg (by omega),if_neg (by rw[hno];decide),e1]
  exact e2
end
theorem zs6:∀ {ts:List Tr} {t:Tr},t∈ts→t.size≤Tr.sizes ts
 |u::ts,t,h=>by
  have e:Tr.sizes (u::ts)=u.size+Tr.sizes ts:=rfl
  rcases List.mem_cons.mp h with z|z
  ·rw[z];omega
  ·have:=zs6 z;omega
theorem zs3:∀ {ts:List Tr} {t:Tr},Wfs ts→t∈ts→Wf t
 |u::ts,t,h,hm=>by
  rcases List.mem_cons.mp hm with z|z
  ·rw[z];exact h.1
  ·exact zs3 h.2 z
theorem zp4:(∀c∈folO,inL zb0 c=false)∧∀c,inL blanksL c=true→inL zb0 c=false:=⟨by decide,ye0 (by decide)⟩
theorem zw2:(∀c∈folO,inL figuresL c=false)∧∀c,inL blanksL c=true→inL figuresL c=false:=⟨by decide,ye0 (by decide)⟩
theorem reads(s:List Nat):∀(n:Nat) (t:Tr),t.size≤n→Wf t→Reads s t
 |0,t,h,_=>by cases t<;>simp[Tr.size] at h
 |n+1,.name nm,_,hw=>zm6 rfl fun d i y _ ht hf=>by
  obtain⟨x',e1,e2⟩:=ht.one
  have e3:s.drop (zb4 s i)=nm++x':=by rw[zh6,e1]
  obtain⟨_,r2,r3⟩:=zy2 (f:=inL zb0) e3 (fun c hc=>by simpa [inL] using hw.2 c hc) (hf.stop e2 zp4.1 zp4.2)
  have hl:atP (inL zb0) s (zb4 s i)=true:=by
   rw[ya3,e3]
   cases nm with
   |nil=>exact absurd rfl hw.1
   |cons c w=>show inL zb0 c=true;simpa [inL] using hw.2 c List.mem_cons_self
  refine⟨zb4 s (zc6 (inL zb0) s (zb4 s i)),by rw[zh6,zn7,r3,e2],1,?_⟩
  unfold go zi7
  rw[if_pos hl]
  unfold zm0
  rw[if_neg (by rw[zs0,r3,e2,hf.no (by decide)];decide),r2]
 |n+1,.num m,_,_=>zm6 rfl fun d i y _ ht hf=>by
  obtain⟨x',e1,e2⟩:=(show Toks (s.drop i) [ya0 m] y from ht).one
  have e3:s.drop (zb4 s i)=ya0 m++x':=by rw[zh6,e1]
  obtain⟨c,w,ec,hc0⟩:=zt9 m
  have hcf:c∈figuresL:=zr8 m c (by rw[ec];exact List.mem_cons_self)
  have hk:s[zb4 s i]? = some c∧s.drop (zb4 s i+1)=w++x':=yd4 (by rw[e3,ec];rfl)
  have hnl:atP (inL zb0) s (zb4 s i)=false:=by rw[zc4 hk.1];exact(by decide:∀c∈figuresL,inL zb0 c=false) c hcf
  have hfg:atP (inL figuresL) s (zb4 s i)=true:=by rw[zc4 hk.1];simpa [inL] using hcf
  have fin:∀j,yf9 s (zb4 s i)=j→numV s (zb4 s i)=m→zc3 (s.drop j)=zc3 y→∃j,zc3 (s.drop j)=zc3 y∧Goes s .opnd d i (.tree (.num m) j):=fun j h1 h2 h3=>by
   refine⟨j,h3,1,?_⟩
   unfold go zi7
   rw[if_neg (by rw[hnl];decide),if_pos hfg,h1,h2]
  by_cases hm:m=0
  ·subst hm
   rw[digs_zero] at ec
   cases ec
   have h0:atP (inL [48]) s (zb4 s i)=true:=by rw[zc4 hk.1];decide
   exact fin (zb4 s i+1) (by unfold yf9;rw[if_pos h0]) (by unfold numV;rw[if_pos h0]) (by rw[hk.2];exact e2)
  ·have h0:¬atP (inL [48]) s (zb4 s i)=true:=by
    rw[zc4 hk.1]
    intro z
    exact hc0 hm (by simpa [inL] using z)
   obtain⟨_,r2,r3⟩:=zy2 (f:=inL figuresL) e3 (fun c hc=>by simpa [inL] using zr8 m c hc) (hf.stop e2 zw2.1 zw2.2)
   exact fin _ (by unfold yf9;rw[if_neg h0]) (by unfold numV;rw[if_neg h0,r2,yn3]) (by rw[r3,e2])
 |n+1,.call nm ts,hs,hw=>zm6 rfl fun d i y hd ht hf=>by
  have ht:Toks (s.drop i) ([nm]++([[40]]++(zb5 ts++[[41]]))) y:=by simpa [za9] using ht
  have hds:(Tr.call nm ts).deep=Tr.deeps ts+1:=rfl
  have hsz:(Tr.call nm ts).size=Tr.sizes ts+1:=rfl
  obtain⟨z0,h0,ht⟩:=Toks.split ht
  obtain⟨z1,h1,h2⟩:=Toks.split ht
  obtain⟨x',e1,e2⟩:=h0.one
  have e3:s.drop (zb4 s i)=nm++x':=by rw[zh6,e1]
  have hf0:Fol [40] z0:=Fol.word h1 (by decide)
  obtain⟨_,r2,r3⟩:=zy2 (f:=inL zb0) e3 (fun c hc=>by simpa [inL] using hw.1.2 c hc) (hf0.stop e2 (by decide) zp4.2)
  have hl:atP (inL zb0) s (zb4 s i)=true:=by
   rw[ya3,e3]
   cases nm with
   |nil=>exact absurd rfl hw.1.1
   |cons c w=>show inL zb0 c=true;simpa [inL] using hw.1.2 c List.mem_cons_self
  obtain⟨q1,q2⟩:=zk8 (s:=s) (j:=zc6 (inL zb0) s (zb4 s i)) h1 (by rw[r3,e2])
  obtain⟨j,ej,m,g⟩:=zv2 (s:=s) (d:=d) (o:=40) (.inl rfl) (fun t ht=>reads s n t (by have:=zs6 ht;omega) (zs3 hw.2 ht)) hw.2 (by omega) q2 h2
  refine⟨j,ej,m+1,?_⟩
  unfold go zi7
  rw[if_pos hl]
  unfold zm0
  rw[if_pos (by rw[zc4 q1];decide),g,r2]
  rfl
 |n+1,.row ts,hs,hw=>zm6 rfl fun d i y hd ht hf=>by
  have ht:Toks (s.drop i) ([[91]]++(zb5 ts++[[93]])) y:=by simpa [za9] using ht
  have hds:(Tr.row ts).deep=Tr.deeps ts+1:=rfl
  have hsz:(Tr.row ts).size=Tr.sizes ts+1:=rfl
  obtain⟨z0,h0,h2⟩:=Toks.split ht
  obtain⟨q1,q2⟩:=zk8 (s:=s) (j:=i) h0 rfl
  obtain⟨j,ej,m,g⟩:=zv2 (s:=s) (d:=d) (o:=91) (.inr rfl) (fun t ht=>reads s n t (by have:=zs6 ht;omega) (zs3 hw ht)) hw (by omega) q2 h2
  refine⟨j,ej,m+1,?_⟩
  unfold go zi7
  rw[if_neg (by rw[zc4 q1];decide),if_neg (by rw[zc4 q1];decide),if_pos (by rw[zc4 q1];decide),g]
  rfl
 |n+1,.bin op a b,hs,hw=>by
  have hds:(Tr.bin op a b).deep=max a.deep b.deep+1:=rfl
  have hsz:(Tr.bin op a b).size=a.size+b.size+1:=rfl
  have Ra:=reads s n a (by omega) hw.2.1
  have Rb:=reads s n b (by omega) hw.2.2
  rcases hw.1 with rfl|hop
  ·
   have hp:∀d i y,d+(Tr.bin 42 a b).deep≤20→Toks (s.drop i) (za9 (.bin 42 a b)) y→Fol folO y→∃j,zc3 (s.drop j)=zc3 y∧∀r,Goes s (.prodL (.bin 42 a b)) d j r→Goes s .prod d i r:=fun d i y hd ht hf=>by
    have ht:Toks (s.drop i) ((if zo6 a then[[40]]++za9 a++[[41]] else za9 a)++([[42]]++(if isOp b then[[40]]++za9 b++[[41]] else za9 b))) y:=by
     have e:za9 (.bin 42 a b)=(if zo6 a then[[40]]++za9 a++[[41]] else za9 a)++([[42]]++(if isOp b then[[40]]++za9 b++[[41]] else za9 b)):=by
      rw[←List.append_assoc];simp[za9]
     rw[←e];exact ht
    obtain⟨z1,h1,ht⟩:=Toks.split ht
    obtain⟨z2,h2,h3⟩:=Toks.split ht
    have first:∃j1,zc3 (s.drop j1)=zc3 z1∧∀r,Goes s (.prodL a) d j1 r→Goes s .prod d i r:=by
     by_cases ha:zo6 a=true
     ·rw[if_pos ha] at h1
      obtain⟨j,e,g⟩:=Ra.brk (d:=d) (by omega) h1
      exact⟨j,e,fun r g2=>zo8 g g2⟩
     ·rw[if_neg ha] at h1
      exact Ra.prod (Bool.eq_false_iff.mpr ha) d i z1 (by omega) h1 (Fol.word h2 (by decide))
    obtain⟨j1,e1,k1⟩:=first
    obtain⟨q1,q2⟩:=zk8 h2 e1
    have h3:=h3.from q2
    have second:∃j2,zc3 (s.drop j2)=zc3 y∧Goes s .opnd d (zb4 s j1+1) (.tree b j2):=by
     by_cases hb:isOp b=true
     ·rw[if_pos hb] at h3
      exact Rb.brk (d:=d) (by omega) h3
     ·rw[if_neg hb] at h3
      exact Rb.opnd (Bool.eq_false_iff.mpr hb) d _ y (by omega) h3 hf
    obtain⟨j2,e2,g2⟩:=second
    exact⟨j2,e2,fun r g=>k1 r (ym9 q1 (by decide) g2 g)⟩
   refine⟨fun d i y hd ht hf=>?_,fun _=>hp,fun h=>by cases h⟩
   obtain⟨j,e,k⟩:=hp d i y hd ht (hf.mono (by decide))
   exact⟨zb4 s j,zl6 e,fun r g=>yk3 (k _ (zr4 e hf)) g⟩
  ·have h42:op≠42:=by omega
   have hsum:zo6 (.bin op a b)=true:=by rcases hop with rfl|rfl<;>rfl
   refine⟨fun d i y hd ht hf=>?_,fun h=>absurd (hsum.symm.trans h) (by decide),fun h=>(by cases h)⟩
   have ht:Toks (s.drop i) (za9 a++([[op]]++(if zo6 b then[[40]]++za9 b++[[41]] else za9 b))) y:=by
    have e:za9 (.bin op a b)=za9 a++([[op]]++(if zo6 b then[[40]]++za9 b++[[41]] else za9 b)):=by
     rw[←List.append_assoc]
     show(if op=42 then _ else _)=_
     rw[if_neg h42]
    rw[←e];exact ht
   obtain⟨z1,h1,ht⟩:=Toks.split ht
   obtain⟨z2,h2,h3⟩:=Toks.split ht
   obtain⟨j1,e1,k1⟩:=Ra.sum d i z1 (by omega) h1 (Fol.word h2 (by rcases hop with rfl|rfl<;>decide))
   obtain⟨q1,q2⟩:=zk8 h2 e1
   have h3:=h3.from q2
   have second:∃j2,zc3 (s.drop j2)=zc3 y∧Goes s .prod d (zb4 s j1+1) (.tree b j2):=by
    by_cases hb:zo6 b=true
    ·rw[if_pos hb] at h3
     obtain⟨j,e,g⟩:=Rb.brk (d:=d) (by omega) h3
     exact⟨zb4 s j,zl6 e,zo8 g (zr4 e hf)⟩
    ·rw[if_neg hb] at h3
     exact Rb.prodE (Bool.eq_false_iff.mpr hb) (by omega) h3 hf
   obtain⟨j2,e2,g2⟩:=second
   exact⟨j2,e2,fun r g=>k1 r (goes_sumL q1 (by rcases hop with rfl|rfl<;>decide) g2 g)⟩
end Pq
namespace Pq
open PySem
mutual
def SmT:Tr→Prop
 |.name s=>s.length≤20
 |.num n=>n<10 ^ 11
 |.call s ts=>s.length≤20∧SmTs ts
 |.row ts=>SmTs ts
 |.bin _ a b=>SmT a∧SmT b
def SmTs:List Tr→Prop
 |[]=>True
 |t::ts=>SmT t∧SmTs ts
end
def GoodW(w:List Nat):Prop:=w.length≤20∧∃c r,w=c::r∧inL blanksL c=false
theorem zh5{c:Nat}(h:inL blanksL c=false):GoodW [c]:=⟨by show 1≤20;decide,c,[],rfl,h⟩
theorem yd0{nm:List Nat}(h1:nm≠[])(h2:∀c∈nm,c∈zb0)(h3:nm.length≤20):GoodW nm:=by
 cases nm with
 |nil=>exact absurd rfl h1
 |cons c r=>exact⟨h3,c,r,rfl,(by decide:∀c∈zb0,inL blanksL c=false) c (h2 c List.mem_cons_self)⟩
theorem good_digs{n:Nat}(h:n<10 ^ 11):GoodW (ya0 n):=by
 obtain⟨c,r,e,_⟩:=zt9 n
 exact⟨Nat.le_trans (digs_len h) (by decide),c,r,e,(by decide:∀c∈figuresL,inL blanksL c=false) c (zr8 n c (by rw[e];exact List.mem_cons_self))⟩
theorem zg8{p:List Nat→Prop}{a b:List (List Nat)}(h1:∀w∈a,p w)(h2:∀w∈b,p w):∀w∈a++b,p w:=fun w hw=>by
 rcases List.mem_append.mp hw with z|z
 ·exact h1 w z
 ·exact h2 w z
theorem zj2{p:List Nat→Prop}{a:List Nat}(h:p a):∀w∈[a],p w:=fun w hw=>by rw[List.mem_singleton.mp hw];exact h
mutual
theorem zk1:∀t:Tr,Wf t→SmT t→∀w∈za9 t,GoodW w
 |.name nm,h,hs=>zj2 (yd0 h.1 h.2 hs)
 |.num n,_,hs=>zj2 (good_digs hs)
 |.call nm ts,h,hs=>by
  unfold za9
  exact zg8 (zg8 (fun w hw=>by
   rcases List.mem_cons.mp hw with z|z
   ·rw[z];exact yd0 h.1.1 h.1.2 hs.1
   ·rw[List.mem_singleton.mp z];exact zh5 (by decide)) (zn3 ts h.2 hs.2)) (zj2 (zh5 (by decide)))
 |.row ts,h,hs=>by
  unfold za9
  exact zg8 (zg8 (zj2 (zh5 (by decide))) (zn3 ts h hs)) (zj2 (zh5 (by decide)))
 |.bin op a b,h,hs=>by
  have ha:=zk1 a h.2.1 hs.1
  have hb:=zk1 b h.2.2 hs.2
  have ba:∀w∈[[40]]++za9 a++[[41]],GoodW w:=zg8 (zg8 (zj2 (zh5 (by decide))) ha) (zj2 (zh5 (by decide)))
  have bb:∀w∈[[40]]++za9 b++[[41]],GoodW w:=zg8 (zg8 (zj2 (zh5 (by decide))) hb) (zj2 (zh5 (by decide)))
  have ho:∀w∈[[op]],GoodW w:=zj2 (zh5 (by rcases h.1 with z|z|z<;>rw[z]<;>decide))
  unfold za9
  split
  ·refine zg8 (zg8 ?_ ho) ?_
   ·split
    ·exact ba
    ·exact ha
   ·split
    ·exact bb
    ·exact hb
  ·refine zg8 (zg8 ha ho) ?_
   split
   ·exact bb
   ·exact hb
theorem zn3:∀ts:List Tr,Wfs ts→SmTs ts→∀w∈zb5 ts,GoodW w
 |[],_,_=>by
  unfold zb5
  intro w hw
  cases hw
 |[t],h,hs=>by
  unfold zb5
  exact zk1 t h.1 hs.1
 |t::u::ts,h,hs=>by
  unfold zb5
  exact zg8 (zg8 (zk1 t h.1 hs.1) (zj2 (zh5 (by decide)))) (zn3 (u::ts) h.2 hs.2)
end
theorem zs2(b:Nat):∀ts:List Tr,(∀t∈ts,(za9 t).length≤b)→(zb5 ts).length≤ts.length*(b+1)
 |[],_=>Nat.zero_le _
 |[t],h=>by
  have:=h t List.mem_cons_self
  show(za9 t).length≤1*(b+1);omega
 |t::u::ts,h=>by
  have h1:=h t List.mem_cons_self
  have h2:=zs2 b (u::ts) fun x hx=>h x (List.mem_cons_of_mem _ hx)
  show(za9 t++[[44]]++zb5 (u::ts)).length≤((u::ts).length+1)*(b+1)
  rw[List.length_append,List.length_append,Nat.add_mul]
  simp only[List.length_cons,List.length_nil] at*
  omega
theorem yn6{f:Nat→Tr}:∀l:List Nat,(∀j,Wf (f j))→Wfs (l.map f)
 |[],_=>trivial
 |a::l,h=>⟨h a,yn6 l h⟩
theorem sms_map{f:Nat→Tr}:∀l:List Nat,(∀j,SmT (f j))→SmTs (l.map f)
 |[],_=>trivial
 |a::l,h=>⟨h a,sms_map l h⟩
def wB:Nat→Nat
 |0=>1
 |d+1=>3*wB d+6
theorem names_ok:∀w∈names5,w≠[]∧(∀c∈w,c∈zb0)∧w.length≤20:=by decide
theorem calls_ok:∀w∈calls3,w≠[]∧(∀c∈w,c∈zb0)∧w.length≤20:=by decide
theorem yk4{l:List (List Nat)}{i:Nat}(h:i<l.length):l.getD i []∈l:=by
 rw[List.getD_eq_getElem?_getD,List.getElem?_eq_getElem h]
 exact List.getElem_mem h
theorem leaf_ok(m:Int):Wf (zn0 m)∧SmT (zn0 m)∧(za9 (zn0 m)).length≤1:=by
 have h5:(m / 16 % 5).toNat<names5.length:=by
  have h0:0≤m / 16 % 5:=Int.emod_nonneg _ (by decide)
  have h1:m / 16 % 5<5:=Int.emod_lt_of_pos _ (by decide)
  show(m / 16 % 5).toNat<5;omega
 have hn:=names_ok _ (yk4 h5)
 have hm:(m / 40 % 100000000000).toNat<10 ^ 11:=by
  have h1:m / 40 % 100000000000<100000000000:=Int.emod_lt_of_pos _ (by decide)
  show _<100000000000;omega
 unfold zn0
 split
 ·exact⟨⟨hn.1,hn.2.1⟩,hn.2.2,Nat.le_refl _⟩
 ·split
  ·exact⟨trivial,(by show 0<100000000000;decide),Nat.le_refl _⟩
  ·split
   ·exact⟨trivial,(by show 7<100000000000;decide),Nat.le_refl _⟩
   ·exact⟨trivial,hm,Nat.le_refl _⟩
theorem wB_pos:∀d,1≤wB d
 |0=>Nat.le_refl _
 |d+1=>by unfold wB;omega
theorem ya7(ns:List Int):∀(d:Nat) (k:Int),Wf (zd4 ns 3 d k)∧SmT (zd4 ns 3 d k)∧(za9 (zd4 ns 3 d k)).length≤wB d
 |0,k=>leaf_ok _
 |d+1,k=>by
  have ih:=ya7 ns d
  have hb:=wB_pos d
  have hB:wB (d+1)=3*wB d+6:=rfl
  have h0:0≤mix ns k / 8 % ((3:Nat)+1:Int):=Int.emod_nonneg _ (by decide)
  have h1:mix ns k / 8 % ((3:Nat)+1:Int)<(3:Nat)+1:=Int.emod_lt_of_pos _ (by decide)
  have hlen:((List.range (mix ns k / 8 % ((3:Nat)+1:Int)).toNat).map fun j:Nat=>zd4 ns 3 d (4*k+1+(0+(j:Int)))).length≤3:=by
   rw[List.length_map,List.length_range];omega
  have hw:Wfs ((List.range (mix ns k / 8 % ((3:Nat)+1:Int)).toNat).map fun j:Nat=>zd4 ns 3 d (4*k+1+(0+(j:Int)))):=yn6 _ fun j=>(ih _).1
  have hs:SmTs ((List.range (mix ns k / 8 % ((3:Nat)+1:Int)).toNat).map fun j:Nat=>zd4 ns 3 d (4*k+1+(0+(j:Int)))):=sms_map _ fun j=>(ih _).2.1
  have hl:=zs2 (wB d) ((List.range (mix ns k / 8 % ((3:Nat)+1:Int)).toNat).map fun j:Nat=>zd4 ns 3 d (4*k+1+(0+(j:Int)))) (fun t ht=>by
   obtain⟨j,_,rfl⟩:=List.mem_map.mp ht
   exact(ih _).2.2)
  have hl2:=Nat.mul_le_mul_right (wB d+1) hlen
  have hc3:(mix ns k / 64 % 3).toNat<calls3.length:=by
   have h0:0≤mix ns k / 64 % 3:=Int.emod_nonneg _ (by decide)
   have h1:mix ns k / 64 % 3<3:=Int.emod_lt_of_pos _ (by decide)
   show(mix ns k / 64 % 3).toNat<3;omega
  have hcn:=calls_ok _ (yk4 hc3)
  unfold zd4
  split
  ·have:=leaf_ok (mix ns k)
   exact⟨this.1,this.2.1,by have:=this.2.2;omega⟩
  ·split
   ·split
    ·refine⟨⟨⟨hcn.1,hcn.2.1⟩,hw⟩,⟨hcn.2.2,hs⟩,?_⟩
     unfold za9
     rw[List.length_append,List.length_append]
     simp only[List.length_cons,List.length_nil]
     omega
    ·refine⟨hw,hs,?_⟩
     unfold za9
     rw[List.length_append,List.length_append]
     simp only[List.length_cons,List.length_nil]
     omega
   ·rename_i c1 c2
    have w8:mix ns k % 8<8:=Int.emod_lt_of_pos _ (by decide)
    have hop:∀i:Nat,i<4→ops4.getD i 0=42∨ops4.getD i 0=43∨ops4.getD i 0=45:=by decide
    have iha:=ih (4*k+1)
    have ihb:=ih (4*k+2)
    refine⟨⟨hop _ (by omega),iha.1,ihb.1⟩,⟨iha.2.1,ihb.2.1⟩,?_⟩
    have ha:=iha.2.2
    have hb':=ihb.2.2
    generalize zd4 ns 3 d (4*k+1)=a at ha
    generalize zd4 ns 3 d (4*k+2)=b at hb'
    unfold za9
    repeat' split
    all_goals
     simp only[List.length_append,List.length_cons,List.length_nil]
     omega
theorem zl5:∀(ts:List Tr) (t:Tr),zb5 (ts++[t])=zb5 ts++(if ts.length=0 then[] else[[44]])++za9 t
 |[],t=>by simp[zb5]
 |[u],t=>by simp[zb5]
 |u::v::ts,t=>by
  have ih:=zl5 (v::ts) t
  show za9 u++[[44]]++zb5 (v::(ts++[t]))=_
  have e:v::(ts++[t])=(v::ts)++[t]:=rfl
  rw[e,ih]
  simp[zb5]
theorem str_num(n:Nat):Str.ofString (toString (n:Int))=tx (ya0 n):=by
 have e:toString (n:Int)=String.ofList (Nat.toDigits 10 n):=rfl
 rw[e,Str.ofString_eq_toList]
 unfold tx ya0
 simp
end Pq
namespace Pq
open PySem L2
abbrev psW:List Str:=["_law_tree_here"]
abbrev psI:List Str:=["_law_tree_here","_law_kinds"]
def ze3(ws:List (List Nat)):List V:=ws.map fun w=>V.str (tx w)
theorem zd3(a b:List (List Nat)):ze3 (a++b)=ze3 a++ze3 b:=by unfold ze3;rw[List.map_append]
theorem zc7(a:List (List Nat)):(ze3 a).length=a.length:=by unfold ze3;rw[List.length_map]
def zj7(ks:List Nat):Tr→Bool
 |.bin op _ _=>inL ks op
 |_=>false
def zs5:Nat→Sp
 |0=>fun _ _ _ _=>False
 |n+1=>fun vs H Q _=>∃(r:Addr) (t:Tr),vs=[.ref r]∧TreeAt H t r∧t.deep≤n∧Wf t∧SmT t∧(za9 t).length≤100000∧∀(l:Addr) (H':Hp),Same H H'→H' l=some (.lst (ze3 (za9 t)))→Q (.ref l) H'
def spInner(n:Nat):Sp:=fun vs H Q _=>∃(r kd:Addr) (t:Tr) (ks:List Nat),vs=[.ref r,.ref kd]∧H kd=some (.tup (ks.map fun c=>V.str (tx [c])))∧TreeAt H t r∧t.deep<n∧Wf t∧SmT t∧(za9 t).length≤100000∧
 ∀(l:Addr) (H':Hp),Same H H'→H' l=some (.lst (ze3 (if zj7 ks t=true then[[40]]++za9 t++[[41]] else za9 t)))→Q (.ref l) H'
theorem yf7:(Str.ofString "+")=tx [43]:=by decide +kernel
theorem zz3:(Str.ofString "-")=tx [45]:=by decide +kernel
theorem star_tx:(Str.ofString "*")=tx [42]:=by decide +kernel
theorem kname:(Str.ofString "name").length≠1:=by decide +kernel
theorem knum:(Str.ofString "number").length≠1:=by decide +kernel
theorem kcall:(Str.ofString "call").length≠1:=by decide +kernel
theorem krow:(Str.ofString "row").length≠1:=by decide +kernel
theorem zo7{k:Str}(h:k.length≠1):∀ks:List Nat,inV (.str k) (ks.map fun c=>V.str (tx [c]))=false
 |[]=>rfl
 |c::ks=>by
  show((tx [c]==k)||inV (.str k) (ks.map fun c=>V.str (tx [c])))=false
  rw[zo7 h ks]
  have:¬tx [c]=k:=fun e=>h (by rw[←e,ze4];rfl)
  rw[beq_eq_false_iff_ne.mpr this];rfl
def zj5:Tr→V
 |.name _=>.str "name"
 |.num _=>.str "number"
 |.call _ _=>.str "call"
 |.row _=>.str "row"
 |.bin op _ _=>.str (tx [op])
theorem ya6{H:Hp}:∀ {t:Tr} {r:Addr},TreeAt H t r→∃xs,H r=some (.tup (zj5 t::xs))
 |.name _,_,e=>⟨_,e⟩
 |.num _,_,e=>⟨_,e⟩
 |.call _ _,_,⟨_,_,e,_⟩=>⟨_,e⟩
 |.row _,_,⟨_,_,e,_⟩=>⟨_,e⟩
 |.bin _ _ _,_,⟨_,_,e,_⟩=>⟨_,e⟩
theorem zm1(t:Tr):zu2 (zj5 t)=true:=by cases t<;>rfl
theorem head_in(ks:List Nat)(t:Tr):inV (zj5 t) (ks.map fun c=>V.str (tx [c]))=zj7 ks t:=by
 cases t with
 |name s=>exact zo7 kname ks
 |num n=>exact zo7 knum ks
 |call s ts=>exact zo7 kcall ks
 |row ts=>exact zo7 krow ks
 |bin op a b=>exact zt7 op ks
section
variable {P:Program}{w:World}{K:PySem.W.Frag}{mg:Str→Option Value}{base:Heap}{f g:Addr}{fd gd:FuncData}
theorem scInner:FnScope psI psI (zb2 yi2):=⟨rfl,rfl,rfl,by decide +kernel,rfl,by decide +kernel,by decide +kernel⟩
theorem ok_inner{n k:Nat}(F:Fun K "_law_inner" "_law_inner" yi2 f fd)(G:FnOk P w K mg base CX0 k g gd psW (zs5 n))(bG:Binds K gd psW [])(kG:PySem.W.keepIn K (.ref g)=true)(mG:mg "_law_words"=some (.ref g)):
  FnOk P w K mg base CX0 (k+1) f fd psI (spInner n):=by
 refine F.okq scInner (fun vs H Q E h=>?_) (fun cdv A outer s H vs Q E hr h=>?_)
 ·obtain⟨r,kd,t,ks,rfl,_⟩:=h
  rfl
 obtain⟨r,kd,t,ks,rfl,hk,hT,hd,hw,hs,hz,q⟩:=h
 cases n with
 |zero=>omega
 |succ n=>
 refine⟨_,za0 (ze9 (zc5 zo1 (zd6 zn2 (pvq 0) za5 (fun _ _=>rfl)) (pvq 1) rfl) (za7 (zc0 (zb3 zt0 (zb3 zt0 (ze0 (za3 za8 za1)) (zc2 G hr rfl mG kG bG .nil zd2 (za4 (pvq 0) za1))) (ze0 (za3 za8 za1))))) zc9)<|
  za7 (zc0 (zc2 G hr rfl mG kG bG .nil zd2 (za4 (pvq 0) za1))),?_⟩
 obtain⟨xs,hr0⟩:=ya6 hT
 refine⟨_,rfl,r,_,_,zj5 t,rfl,rfl,SqT.of hr0,(by show atI (zj5 t::xs) ((0:Nat):Int)=_;exact zh2 rfl),_,rfl,kd,_,rfl,.inr (SqT.of hk),zm1 t,zp6 ks,_,rfl,?_⟩
 show if inV (zj5 t) (ks.map fun c=>V.str (tx [c]))=true then _ else _
 rw[head_in]
 cases c:zj7 ks t with
 |true=>
  rw[if_pos c] at q
  refine zj4 ⟨(by show 1≤sizeLine;decide),fun l1 h1=>?_⟩
  have s1:=za6 h1 (.lst [.str "("])
  refine⟨_,rfl,r,t,rfl,hT.mono (.of s1),by omega,hw,hs,hz,fun l2 H2 s2 h2=>?_⟩
  refine⟨l1,l2,_,_,rfl,rfl,s2 _ _ za2,h2,zb7 (by rw[zc7];show 1+_≤_;omega),fun l3 h3=>?_⟩
  have s3:=za6 h3 (.lst ([.str "("]++ze3 (za9 t)))
  refine⟨(by show 1≤sizeLine;decide),fun l4 h4=>?_⟩
  have s4:=za6 h4 (.lst [.str ")"])
  refine⟨l3,l4,_,_,rfl,rfl,s4 _ _ za2,za2,zb7 (by rw[List.length_append,zc7];show 1+_+1≤_;omega),fun l5 h5=>?_⟩
  have s5:=za6 h5 (.lst ([.str "("]++ze3 (za9 t)++[.str ")"]))
  refine q l5 _ (s1.trans (s2.trans (s3.trans (s4.trans s5)))) ?_
  rw[za2,zd3,zd3,lp_tx,rp_tx];rfl
 |false=>
  rw[if_neg (by rw[c];decide)] at q
  exact zk5 ⟨_,rfl,r,t,rfl,hT,by omega,hw,hs,hz,q⟩
theorem scWords:FnScope ["_law_tree_here","_law_word","_law_found","_law_parts","_law_k","_law_tight","_law_first"] psW (zb2 yh8):=⟨rfl,rfl,rfl,by decide +kernel,rfl,by decide +kernel,by decide +kernel⟩
theorem zj1:∀ {ts:List Tr} {i:Nat} {t:Tr},ts[i]? = some t→(za9 t).length≤(zb5 ts).length
 |[u],0,t,h=>by cases h;exact Nat.le_refl _
 |u::v::ts,0,t,h=>by
  cases h
  show _≤(za9 u++[[44]]++zb5 (v::ts)).length
  rw[List.length_append,List.length_append];omega
 |u::v::ts,i+1,t,h=>by
  have:=zj1 (ts:=v::ts) (i:=i) (t:=t) (by simpa using h)
  show _≤(za9 u++[[44]]++zb5 (v::ts)).length
  rw[List.length_append];omega
theorem zz5:∀(ts:List Tr) (i:Nat),(zb5 (ts.take i)).length≤(zb5 ts).length
 |[],i=>by simp[zb5]
 |[u],0=>by simp[zb5]
 |[u],i+1=>by simp
 |u::v::ts,0=>by simp[zb5]
 |u::v::ts,1=>by
  show(za9 u).length≤(za9 u++[[44]]++zb5 (v::ts)).length
  rw[List.length_append,List.length_append];omega
 |u::v::ts,i+2=>by
  have:=zz5 (v::ts) (i+1)
  show(za9 u++[[44]]++zb5 ((v::ts).take (i+1))).length≤(za9 u++[[44]]++zb5 (v::ts)).length
  rw[List.length_append,List.length_append (as:=za9 u++[[44]])];omega
theorem zq0:∀ {ts:List Tr} {i:Nat} {t:Tr},ts[i]? = some t→t.deep≤Tr.deeps ts
 |u::ts,0,t,h=>by
  cases h
  show _≤max _ _;omega
 |u::ts,i+1,t,h=>by
  have:=zq0 (ts:=ts) (i:=i) (t:=t) (by simpa using h)
  show _≤max _ _;omega
theorem ye9:∀ {ts:List Tr} {t:Tr},SmTs ts→t∈ts→SmT t
 |u::ts,t,h,hm=>by
  rcases List.mem_cons.mp hm with z|z
  ·rw[z];exact h.1
  ·exact ye9 h.2 z
theorem small_log{n:Nat}(h:n<10 ^ 11):((n:Int)).natAbs.log2<1920:=by
 have e:((n:Int)).natAbs=n:=by omega
 rw[e]
 by_cases h0:n=0
 ·subst h0;decide
 ·refine Nat.lt_of_lt_of_le ((Nat.log2_lt (k:=40) h0).mpr ?_) (by decide)
  exact Nat.lt_of_lt_of_le h (by decide)
theorem zq3(a b:Str){k:Str}:inV (.str k) [.str a,.str b]=(decide (k=a)||decide (k=b)):=by
 show((a==k)||((b==k)||false))=_
 have e:∀x:Str,(x==k)=decide (k=x):=fun x=>by
  by_cases h:k=x
  ·subst h;simp
  ·rw[decide_eq_false h,beq_eq_false_iff_ne.mpr (Ne.symm h)]
 rw[e,e,Bool.or_false]
end
end Pq
namespace Pq
open PySem L2
section
variable {P:Program}{w:World}{K:PySem.W.Frag}{mg:Str→Option Value}{base:Heap}{f g:Addr}{fd gd:FuncData}
theorem zv8(t:Tr):zj7 [43,45] t=zo6 t:=by
 cases t with
 |bin op a b=>
  show inL [43,45] op=_
  by_cases h1:op=43
  ·subst h1;rfl
  ·by_cases h2:op=45
   ·subst h2;rfl
   ·have e:zo6 (.bin op a b)=false:=by
     unfold zo6
     split
     ·rename_i h;cases h;exact absurd rfl h1
     ·rename_i h;cases h;exact absurd rfl h2
     ·rfl
    rw[e];simp[inL,h1,h2]
 |_=>rfl
theorem kindIn_op(t:Tr)(h:Wf t):zj7 [43,45,42] t=isOp t:=by
 cases t with
 |bin op a b=>rcases h.1 with z|z|z<;>rw[z]<;>rfl
 |_=>rfl
theorem yn5(op:Nat)(a b:Tr)(h:Wf b):za9 (.bin op a b)=(if zj7 (if op=42 then[43,45] else[]) a=true then[[40]]++za9 a++[[41]] else za9 a)++[[op]]++(if zj7 (if op=42 then[43,45,42] else[43,45]) b=true then[[40]]++za9 b++[[41]] else za9 b):=by
 show(if op=42 then _ else _)=_
 by_cases ho:op=42
 ·rw[if_pos ho,if_pos ho,if_pos ho,zv8,kindIn_op b h]
 ·have e:zj7 [] a=false:=by cases a<;>rfl
  rw[if_neg ho,if_neg ho,if_neg ho,zv8,e]
  rfl
theorem dec_word{a b:List Nat}:decide (V.str (tx a)=V.str (tx b))=decide (a=b):=by
 by_cases h:a=b
 ·subst h;simp
 ·rw[decide_eq_false h,decide_eq_false (fun e=>h (yh3 (V.str.inj e)))]
theorem zt3:∀ts:List Tr,ts.length≤(zb5 ts).length+1
 |[]=>Nat.zero_le _
 |[t]=>by show 1≤_;omega
 |t::u::ts=>by
  have:=zt3 (u::ts)
  show(u::ts).length+1≤(za9 t++[[44]]++zb5 (u::ts)).length+1
  rw[List.length_append,List.length_append]
  simp only[List.length_cons,List.length_nil] at*
  omega
theorem le_brk(c:Bool)(ws:List (List Nat)):ws.length≤(if c=true then[[40]]++ws++[[41]] else ws).length:=by
 cases c<;>simp
 omega
theorem lb2_tx:([V.str ")",V.str "]"]:List V)=[V.str (tx [41]),V.str (tx [93])]:=by rw[rp_tx,rb_tx]
theorem ok_words {n k : Nat} {fi : Addr} {iD : FuncData} (F : Fun K "_law_words" "_law_words" yh8 f fd) (mF : mg "_law_words" = some (.ref f)) (bF : Binds K fd psW []) (mr : mg "range" = none) (ml : mg "len" = none) (mi : mg "int" = none) (ms : mg "str" = none)
    (G : FnOk P w K mg base CX0 k f fd psW (zs5 n)) (GI : FnOk P w K mg base CX0 (k + 1) fi iD psI (spInner n)) (bI : Binds K iD psI []) (kI : PySem.W.keepIn K (.ref fi) = true) (mI : mg "_law_inner" = some (.ref fi)) :
    FnOk P w K mg base CX0 (k + 2) f fd psW (zs5 (n + 1)) := by
  refine F.okq scWords (fun vs H Q E h => ?_) (fun cdv A outer s H vs Q E hr h => ?_)
  · obtain ⟨r, t, rfl, _⟩ := h
    rfl
  obtain ⟨r, t, rfl, hT, hd, hw, hs, hz, q⟩ := h
  have nd := scWords.nd
  have hrk : Room k _ := hr.mono (by omega)
  refine ⟨_, za0 (zb1 (i := 1) nd rfl (Or.inl rfl) (zd6 zn2 (pvq 0) za5 (fun _ _ => rfl))) <|
    za0 (ze9 (zc5 zo1 (pvq 1) (ze5 (za3 za8 (za3 za8 za1))) rfl)
      (za7 (zc0 (ze0 (zf4 (zh0 (call_str_int.or yd9) rfl ms PyProof.Rows.boot_str (zh9 (zd6 zn2 (pvq 0) za5 (fun _ _ => rfl)) za1)) za1)))) zc9) <|
    za0 (ze9 (zc5 zo1 (pvq 1) (ze5 (za3 za8 (za3 za8 za1))) rfl)
      (za0 (zb1 (i := 2) nd rfl (Or.inl rfl) (zi5 (zc5 zm9 (pvq 1) za8 (ze1 _)) (ze0 (zh9 (zd6 zn2 (pvq 0) za5 (fun _ _ => rfl)) (za3 za8 za1))) (ze0 (za3 za8 za1)))) <|
       za0 (zb1 (i := 3) nd rfl (Or.inl rfl) (zd6 zn2 (pvq 0) (zv1 zu4 za5) (fun _ _ => rfl))) <|
       za0 (yf4 PassesOwn.never rfl (zk3 rfl mr (zf4 (zd7 zm4 rfl ml PySem.boot_len (za4 (pvq 3) za1)) za1)) (zy7 (i := 4) nd rfl (Or.inl rfl))
         (za7 (zb1 (i := 2) nd rfl (Or.inl rfl) (zb3 zt0 (zb3 zt0 (pvq 2) (zb3 op_rep (ze0 (za3 za8 za1)) (zh0 zu0 rfl mi PyProof.Rows.boot_int (zl0 (zf0 op_gt (pvq 4) za5 (ze1 _)) za1 rfl))))
           (zc2 G hrk rfl mF F.kp bF .nil zd2 (zh9 (zd6 zn2 (pvq 3) (pvq 4) (fun _ _ => rfl)) za1)))))) <|
       za7 (zc0 (zb3 zt0 (pvq 2) (ze0 (zh9 (zd6 zi0 (ze0 (za3 za8 (za3 za8 za1))) (zh0 zu0 rfl mi PyProof.Rows.boot_int (zl0 (zf0 zm9 (pvq 1) za8 (ze1 _)) za1 rfl)) (fun _ _ => rfl)) za1))))) zc9) <|
    za0 (zb1 (i := 5) nd rfl (Or.inl rfl) (zf0 zm9 (pvq 1) za8 (ze1 _))) <|
    za0 (zb1 (i := 6) nd rfl (Or.inl rfl) (zc2 GI hr rfl mI kI bI .nil zd2 (zh9 (zd6 zn2 (pvq 0) za5 (fun _ _ => rfl)) (zl0 (zi5 (zd1 (pvq 5)) (ze5 (za3 za8 (za3 za8 za1))) (ze5 za1)) za1 rfl)))) <|
    za7 (zc0 (zb3 zt0 (zb3 zt0 (pvq 6) (ze0 (za4 (pvq 1) za1))) (zc2 GI hr rfl mI kI bI .nil zd2 (zh9 (zd6 zn2 (pvq 0) za5 (fun _ _ => rfl)) (zl0 (zi5 (zd1 (pvq 5)) (ze5 (za3 za8 (za3 za8 (za3 za8 za1)))) (ze5 (za3 za8 (za3 za8 za1)))) za1 rfl))))), ?_⟩
  obtain ⟨xs, hr0⟩ := ya6 hT
  refine ⟨_, rfl, r, _, _, zj5 t, rfl, rfl, SqT.of hr0, (by show atI (zj5 t :: xs) ((0 : Nat) : Int) = _; exact zh2 rfl), ?_⟩
  refine ⟨_, rfl, (by show 2 ≤ sizeLine; decide), fun t1 ht1 => ⟨t1, _, rfl, .inr (SqT.of za2), zm1 t, rfl, _, rfl, ?_⟩⟩
  have s1 := za6 ht1 (.tup [.str "name", .str "number"])
  show if inV (zj5 t) [.str "name", .str "number"] = true then _ else _
  have leaf : ∀ (y : V) (ws : List Nat), za9 t = [ws] → H r = some (.tup [zj5 t, y]) → (∃ i : Int, y = .int i ∧ i.natAbs.log2 < 1920 ∧ Str.ofString (toString i) = tx ws) ∨ y = .str (tx ws) →
      (∃ v, ([some (V.ref r), some (zj5 t), none, none, none, none, none] : St)[0]? = some (some v) ∧ ∃ p ys i v2, v = .ref p ∧ V.int 1 = .int i ∧ SqT K (upd H t1 (.tup [.str "name", .str "number"])) p ys ∧ atI ys i = some v2 ∧
        ((∃ i, [v2] = [V.int i] ∧ i.natAbs.log2 < 1920 ∧ [V.str (toString i)].length ≤ sizeLine ∧ ∀ l, (upd H t1 (.tup [.str "name", .str "number"])) l = none → Q (.ref l) (upd (upd H t1 (.tup [.str "name", .str "number"])) l (.lst [V.str (toString i)]))) ∨
         ∃ z, [v2] = [V.str z] ∧ [V.str z].length ≤ sizeLine ∧ ∀ l, (upd H t1 (.tup [.str "name", .str "number"])) l = none → Q (.ref l) (upd (upd H t1 (.tup [.str "name", .str "number"])) l (.lst [V.str z])))) := fun y ws ew hr1 hy => by
    refine ⟨_, rfl, r, _, _, y, rfl, rfl, SqT.of (s1 _ _ hr1), rfl, ?_⟩
    rcases hy with ⟨i, rfl, hl, es⟩ | rfl
    · refine .inl ⟨i, rfl, hl, (by show 1 ≤ sizeLine; decide), fun l hl => q l _ (s1.trans (za6 hl _)) ?_⟩
      rw [za2, ew]
      show some (HO.lst [V.str (Str.ofString (toString i))]) = _
      rw [es]; rfl
    · refine .inr ⟨_, rfl, (by show 1 ≤ sizeLine; decide), fun l hl => q l _ (s1.trans (za6 hl _)) ?_⟩
      rw [za2, ew]; rfl
  cases t with
  | name nm =>
    refine zk4 (by rw [show inV (zj5 (.name nm)) [.str "name", .str "number"] = (decide (Str.ofString "name" = Str.ofString "name") || decide (Str.ofString "name" = Str.ofString "number")) from zq3 _ _]; decide +kernel) ?_
    exact leaf _ nm rfl hT (.inr rfl)
  | num m =>
    refine zk4 (by rw [show inV (zj5 (.num m)) [.str "name", .str "number"] = (decide (Str.ofString "number" = Str.ofString "name") || decide (Str.ofString "number" = Str.ofString "number")) from zq3 _ _]; decide +kernel) ?_
    exact leaf _ (ya0 m) rfl hT (.inl ⟨_, rfl, small_log hs, str_num m⟩)
  | call nm ts =>
    refine zp5 (by rw [show inV (zj5 (.call nm ts)) [.str "name", .str "number"] = (decide (Str.ofString "call" = Str.ofString "name") || decide (Str.ofString "call" = Str.ofString "number")) from zq3 _ _]; decide +kernel) ?_
    obtain ⟨l0, as, hr1, hl0, hts⟩ := hT
    have hds : (Tr.call nm ts).deep = Tr.deeps ts + 1 := rfl
    have hlw : za9 (.call nm ts) = [nm, [40]] ++ zb5 ts ++ [[41]] := by unfold za9; rfl
    have hz2 : (zb5 ts).length + 2 ≤ 100000 := by
      rw [hlw, List.length_append, List.length_append] at hz
      simp only [List.length_cons, List.length_nil] at hz
      omega
    refine ⟨_, rfl, (by show 2 ≤ sizeLine; decide), fun t2 ht2 => ⟨t2, _, rfl, .inr (SqT.of za2), zm1 _, rfl, _, rfl, ?_⟩⟩
    have s2 := za6 ht2 (.tup [.str "call", .str "row"])
    show if inV (zj5 (.call nm ts)) [.str "call", .str "row"] = true then _ else _
    refine zk4 (by rw [show inV (zj5 (.call nm ts)) [.str "call", .str "row"] = (decide (Str.ofString "call" = Str.ofString "call") || decide (Str.ofString "call" = Str.ofString "row")) from zq3 _ _]; decide +kernel) ?_
    refine ⟨_, rfl, rfl, _, rfl, ?_⟩
    have s12 := s1.trans s2
    refine zk4 (by show decide (V.str (Str.ofString "call") = V.str (Str.ofString "call")) = true; decide +kernel) ⟨_, rfl, r, _, _, _, rfl, rfl, SqT.of (s12 _ _ hr1), rfl, (by show 2 ≤ sizeLine; decide), fun lf hlf => ?_⟩
    have s3 := za6 hlf (.lst [.str (tx nm), .str "("])
    refine ⟨_, rfl, _, rfl, r, _, _, .ref l0, rfl, rfl, SqT.of (s3 _ _ (s12 _ _ hr1)), rfl, ?_⟩
    refine ⟨_, rfl, l0, _, rfl, .inr (SqT.of (s3 _ _ (s12 _ _ hl0))), _, rfl, by omega, by rw [List.length_map, hts.len]; have := zt3 ts; omega, ?_⟩
    have hlas : ((((as.map V.ref).length : Nat) : Int)).toNat = ts.length := by rw [List.length_map, hts.len]; omega
    rw [hlas]
    refine zt8 (lo := 0) (n := ts.length) (fun k σ Hk => ∃ fl v4, σ = [some (.ref r), some (.str "call"), some (.ref fl), some (.ref l0), v4, none, none] ∧ Same H Hk ∧ Hk fl = some (.lst (ze3 ([nm, [40]] ++ zb5 (ts.take k))))) ⟨lf, none, rfl, s12.trans s3, ?_⟩ ?_ ?_
    · rw [za2]
      show some (HO.lst [V.str (tx nm), V.str "("]) = some (HO.lst (ze3 [nm, [40]]))
      rw [lp_tx]; rfl
    · rintro i σ Hk hi ⟨fl, v4, rfl, sk, hfl⟩
      obtain ⟨ti, hti⟩ : ∃ ti, ts[i]? = some ti := ⟨_, List.getElem?_eq_getElem hi⟩
      obtain ⟨ai, hai, hta⟩ := hts.get hti
      have hln := zz5 ts i
      have hln2 := zj1 hti
      refine ⟨_, rfl, (by show 1 ≤ sizeLine; decide), fun lc hlc => ?_⟩
      have k1 := za6 hlc (.lst [.str ","])
      refine ⟨_, rfl, _, _, rfl, rfl, .inr ⟨_, rfl, ?_⟩⟩
      have hrep : ∃ m : Nat, (if decide ((0 : Int) < 0 + (i : Int)) = true then (1 : Int) else 0) = (m : Int) ∧ m ≤ 1 ∧ (List.replicate m [V.str ","]).flatten = ze3 (if (ts.take i).length = 0 then [] else [[44]]) := by
        have ht : (ts.take i).length = i := by rw [List.length_take]; omega
        rw [ht]
        by_cases h0 : i = 0
        · subst h0; exact ⟨0, rfl, by decide, rfl⟩
        · refine ⟨1, by rw [if_pos (decide_eq_true (by omega))]; rfl, by decide, ?_⟩
          rw [if_neg h0, zr9]; rfl
      obtain ⟨m, em, hm1, hm2⟩ := hrep
      rw [em]
      refine ⟨lc, _, _, rfl, rfl, za2, by omega, by omega, zb7 (by show 1 * _ ≤ _; omega), fun lr hlr => ?_⟩
      have em' : ((m : Int)).toNat = m := by omega
      rw [em', hm2]
      have k2 := za6 hlr (.lst (ze3 (if (ts.take i).length = 0 then [] else [[44]])))
      have hc1 : (ze3 (if (ts.take i).length = 0 then [] else [[44]])).length ≤ 1 := by
        rw [zc7]; split <;> simp
      have hc2 : ((if (ts.take i).length = 0 then [] else [[44]]) : List (List Nat)).length ≤ 1 := by split <;> simp
      refine ⟨fl, lr, _, _, rfl, rfl, k2 _ _ (k1 _ _ hfl), za2, zb7 (by simp only [zc7, List.length_append, List.length_cons, List.length_nil]; omega), fun l2 hl2 => ?_⟩
      have k3 := za6 hl2 (.lst (ze3 ([nm, [40]] ++ zb5 (ts.take i)) ++ ze3 (if (ts.take i).length = 0 then [] else [[44]])))
      have k123 := k1.trans (k2.trans k3)
      refine ⟨_, rfl, _, rfl, l0, _, _, .ref ai, rfl, rfl, SqT.of (k123 _ _ (sk _ _ hl0)), ?_, ?_⟩
      · have e0 : (0 : Int) + (i : Int) = ((i : Nat) : Int) := by omega
        rw [e0]
        exact zh2 (by rw [List.getElem?_map, hai]; rfl)
      cases n with
      | zero => omega
      | succ n =>
      have hdt := zq0 hti
      have hmem := List.mem_of_getElem? hti
      refine ⟨ai, ti, rfl, hta.mono (.of (sk.trans k123)), by omega, zs3 hw.2 hmem, ye9 hs.2 hmem, by omega, fun l3 H3 s3' h3 => ?_⟩
      refine ⟨l2, l3, _, _, rfl, rfl, s3' _ _ za2, h3, zb7 (by simp only [zc7, List.length_append, List.length_cons, List.length_nil]; omega), fun l4 h4 => ?_⟩
      refine ⟨l4, _, rfl, sk.trans (k123.trans (s3'.trans (za6 h4 _))), ?_⟩
      rw [za2, zs4 hti, zl5, ← zd3, ← zd3]
      simp only [List.append_assoc]
    · rintro σ Hk ⟨fl, v4, rfl, sk, hfl⟩
      rw [List.take_length] at hfl
      refine ⟨_, rfl, (by show 2 ≤ sizeLine; decide), fun lb hlb => ?_⟩
      have k1 := za6 hlb (.lst [.str ")", .str "]"])
      refine ⟨_, rfl, rfl, .inr ⟨_, rfl, lb, _, _, .str (tx [41]), rfl, rfl, SqL.of za2, ?_, (by show 1 ≤ sizeLine; decide), fun lo hlo => ?_⟩⟩
      · have e : decide (V.str (Str.ofString "call") = V.str (Str.ofString "row")) = false := by decide +kernel
        rw [e, lb2_tx]
        rfl
      have k2 := za6 hlo (.lst [.str (tx [41])])
      refine ⟨fl, lo, _, _, rfl, rfl, k2 _ _ (k1 _ _ hfl), za2, zb7 (by rw [zc7, List.length_append]; simp only [List.length_cons, List.length_nil]; omega), fun l4 h4 => ?_⟩
      refine q l4 _ (sk.trans (k1.trans (k2.trans (za6 h4 _)))) ?_
      rw [za2, hlw, zd3 ([nm, [40]] ++ zb5 ts)]
      rfl
  | row ts =>
    refine zp5 (by rw [show inV (zj5 (.row ts)) [.str "name", .str "number"] = (decide (Str.ofString "row" = Str.ofString "name") || decide (Str.ofString "row" = Str.ofString "number")) from zq3 _ _]; decide +kernel) ?_
    obtain ⟨l0, as, hr1, hl0, hts⟩ := hT
    have hds : (Tr.row ts).deep = Tr.deeps ts + 1 := rfl
    have hlw : za9 (.row ts) = [[91]] ++ zb5 ts ++ [[93]] := by unfold za9; rfl
    have hz2 : (zb5 ts).length + 2 ≤ 100000 := by
      rw [hlw, List.length_append, List.length_append] at hz
      simp only [List.length_cons, List.length_nil] at hz
      omega
    refine ⟨_, rfl, (by show 2 ≤ sizeLine; decide), fun t2 ht2 => ⟨t2, _, rfl, .inr (SqT.of za2), zm1 _, rfl, _, rfl, ?_⟩⟩
    have s2 := za6 ht2 (.tup [.str "call", .str "row"])
    show if inV (zj5 (.row ts)) [.str "call", .str "row"] = true then _ else _
    refine zk4 (by rw [show inV (zj5 (.row ts)) [.str "call", .str "row"] = (decide (Str.ofString "row" = Str.ofString "call") || decide (Str.ofString "row" = Str.ofString "row")) from zq3 _ _]; decide +kernel) ?_
    refine ⟨_, rfl, rfl, _, rfl, ?_⟩
    have s12 := s1.trans s2
    refine zp5 (by show ¬ decide (V.str (Str.ofString "row") = V.str (Str.ofString "call")) = true; decide +kernel) ⟨(by show 1 ≤ sizeLine; decide), fun lf hlf => ?_⟩
    have s3 := za6 hlf (.lst [.str "["])
    refine ⟨_, rfl, _, rfl, r, _, _, .ref l0, rfl, rfl, SqT.of (s3 _ _ (s12 _ _ hr1)), rfl, ?_⟩
    refine ⟨_, rfl, l0, _, rfl, .inr (SqT.of (s3 _ _ (s12 _ _ hl0))), _, rfl, by omega, by rw [List.length_map, hts.len]; have := zt3 ts; omega, ?_⟩
    have hlas : ((((as.map V.ref).length : Nat) : Int)).toNat = ts.length := by rw [List.length_map, hts.len]; omega
    rw [hlas]
    refine zt8 (lo := 0) (n := ts.length) (fun k σ Hk => ∃ fl v4, σ = [some (.ref r), some (.str "row"), some (.ref fl), some (.ref l0), v4, none, none] ∧ Same H Hk ∧ Hk fl = some (.lst (ze3 ([[91]] ++ zb5 (ts.take k))))) ⟨lf, none, rfl, s12.trans s3, ?_⟩ ?_ ?_
    · rw [za2]
      show some (HO.lst [V.str "["]) = some (HO.lst (ze3 [[91]]))
      rw [lb_tx]; rfl
    · rintro i σ Hk hi ⟨fl, v4, rfl, sk, hfl⟩
      obtain ⟨ti, hti⟩ : ∃ ti, ts[i]? = some ti := ⟨_, List.getElem?_eq_getElem hi⟩
      obtain ⟨ai, hai, hta⟩ := hts.get hti
      have hln := zz5 ts i
      have hln2 := zj1 hti
      refine ⟨_, rfl, (by show 1 ≤ sizeLine; decide), fun lc hlc => ?_⟩
      have k1 := za6 hlc (.lst [.str ","])
      refine ⟨_, rfl, _, _, rfl, rfl, .inr ⟨_, rfl, ?_⟩⟩
      have hrep : ∃ m : Nat, (if decide ((0 : Int) < 0 + (i : Int)) = true then (1 : Int) else 0) = (m : Int) ∧ m ≤ 1 ∧ (List.replicate m [V.str ","]).flatten = ze3 (if (ts.take i).length = 0 then [] else [[44]]) := by
        have ht : (ts.take i).length = i := by rw [List.length_take]; omega
        rw [ht]
        by_cases h0 : i = 0
        · subst h0; exact ⟨0, rfl, by decide, rfl⟩
        · refine ⟨1, by rw [if_pos (decide_eq_true (by omega))]; rfl, by decide, ?_⟩
          rw [if_neg h0, zr9]; rfl
      obtain ⟨m, em, hm1, hm2⟩ := hrep
      rw [em]
      refine ⟨lc, _, _, rfl, rfl, za2, by omega, by omega, zb7 (by show 1 * _ ≤ _; omega), fun lr hlr => ?_⟩
      have em' : ((m : Int)).toNat = m := by omega
      rw [em', hm2]
      have k2 := za6 hlr (.lst (ze3 (if (ts.take i).length = 0 then [] else [[44]])))
      have hc1 : (ze3 (if (ts.take i).length = 0 then [] else [[44]])).length ≤ 1 := by
        rw [zc7]; split <;> simp
      have hc2 : ((if (ts.take i).length = 0 then [] else [[44]]) : List (List Nat)).length ≤ 1 := by split <;> simp
      refine ⟨fl, lr, _, _, rfl, rfl, k2 _ _ (k1 _ _ hfl), za2, zb7 (by simp only [zc7, List.length_append, List.length_cons, List.length_nil]; omega), fun l2 hl2 => ?_⟩
      have k3 := za6 hl2 (.lst (ze3 ([[91]] ++ zb5 (ts.take i)) ++ ze3 (if (ts.take i).length = 0 then [] else [[44]])))
      have k123 := k1.trans (k2.trans k3)
      refine ⟨_, rfl, _, rfl, l0, _, _, .ref ai, rfl, rfl, SqT.of (k123 _ _ (sk _ _ hl0)), ?_, ?_⟩
      · have e0 : (0 : Int) + (i : Int) = ((i : Nat) : Int) := by omega
        rw [e0]
        exact zh2 (by rw [List.getElem?_map, hai]; rfl)
      cases n with
      | zero => omega
      | succ n =>
      have hdt := zq0 hti
      have hmem := List.mem_of_getElem? hti
      refine ⟨ai, ti, rfl, hta.mono (.of (sk.trans k123)), by omega, zs3 hw hmem, ye9 hs hmem, by omega, fun l3 H3 s3' h3 => ?_⟩
      refine ⟨l2, l3, _, _, rfl, rfl, s3' _ _ za2, h3, zb7 (by simp only [zc7, List.length_append, List.length_cons, List.length_nil]; omega), fun l4 h4 => ?_⟩
      refine ⟨l4, _, rfl, sk.trans (k123.trans (s3'.trans (za6 h4 _))), ?_⟩
      rw [za2, zs4 hti, zl5, ← zd3, ← zd3]
      simp only [List.append_assoc]
    · rintro σ Hk ⟨fl, v4, rfl, sk, hfl⟩
      rw [List.take_length] at hfl
      refine ⟨_, rfl, (by show 2 ≤ sizeLine; decide), fun lb hlb => ?_⟩
      have k1 := za6 hlb (.lst [.str ")", .str "]"])
      refine ⟨_, rfl, rfl, .inr ⟨_, rfl, lb, _, _, .str (tx [93]), rfl, rfl, SqL.of za2, ?_, (by show 1 ≤ sizeLine; decide), fun lo hlo => ?_⟩⟩
      · have e : decide (V.str (Str.ofString "row") = V.str (Str.ofString "row")) = true := by decide +kernel
        rw [e, lb2_tx]
        rfl
      have k2 := za6 hlo (.lst [.str (tx [93])])
      refine ⟨fl, lo, _, _, rfl, rfl, k2 _ _ (k1 _ _ hfl), za2, zb7 (by rw [zc7, List.length_append]; simp only [List.length_cons, List.length_nil]; omega), fun l4 h4 => ?_⟩
      refine q l4 _ (sk.trans (k1.trans (k2.trans (za6 h4 _)))) ?_
      rw [za2, hlw, zd3 ([[91]] ++ zb5 ts)]
      rfl
  | bin op a b =>
    have ho := hw.1
    obtain ⟨x, y, hr1, hta, htb⟩ := hT
    have hone : (tx [op]).length = 1 := ze4 [op]
    have hnot : ∀ k : Str, k.length ≠ 1 → decide (tx [op] = k) = false := fun k hk => decide_eq_false fun e => hk (by rw [← e]; exact hone)
    have hds : (Tr.bin op a b).deep = max a.deep b.deep + 1 := rfl
    have hlw := yn5 op a b hw.2.2
    refine zp5 (by rw [show inV (zj5 (.bin op a b)) [.str "name", .str "number"] = (decide (tx [op] = Str.ofString "name") || decide (tx [op] = Str.ofString "number")) from zq3 _ _, hnot _ kname, hnot _ knum]; decide) ?_
    refine ⟨_, rfl, (by show 2 ≤ sizeLine; decide), fun t2 ht2 => ⟨t2, _, rfl, .inr (SqT.of za2), zm1 _, rfl, _, rfl, ?_⟩⟩
    have s2 := za6 ht2 (.tup [.str "call", .str "row"])
    have s12 := s1.trans s2
    show if inV (zj5 (.bin op a b)) [.str "call", .str "row"] = true then _ else _
    refine zp5 (by rw [show inV (zj5 (.bin op a b)) [.str "call", .str "row"] = (decide (tx [op] = Str.ofString "call") || decide (tx [op] = Str.ofString "row")) from zq3 _ _, hnot _ kcall, hnot _ krow]; decide) ?_
    refine ⟨_, rfl, rfl, ?_⟩
    have et : decide (V.str (tx [op]) = V.str (Str.ofString "*")) = decide (op = 42) := by
      rw [star_tx, dec_word]
      by_cases h : op = 42
      · subst h; simp
      · rw [decide_eq_false h, decide_eq_false (by simpa using h)]
    have hlen : (if zj7 (if op = 42 then [43, 45] else []) a = true then [[40]] ++ za9 a ++ [[41]] else za9 a).length + 1 + (if zj7 (if op = 42 then [43, 45, 42] else [43, 45]) b = true then [[40]] ++ za9 b ++ [[41]] else za9 b).length ≤ 100000 := by
      rw [hlw, List.length_append, List.length_append] at hz
      simp only [List.length_cons, List.length_nil] at hz
      omega
    have hla : (za9 a).length ≤ 100000 := by
      have := le_brk (zj7 (if op = 42 then [43, 45] else []) a) (za9 a)
      omega
    have hlb : (za9 b).length ≤ 100000 := by
      have := le_brk (zj7 (if op = 42 then [43, 45, 42] else [43, 45]) b) (za9 b)
      omega
    refine ⟨_, rfl, r, _, _, .ref x, rfl, rfl, SqT.of (s12 _ _ hr1), rfl, _, rfl, decide (op = 42), (by show V.bl (decide (V.str (tx [op]) = V.str (Str.ofString "*"))) = _; rw [et]), ?_⟩
    by_cases h42 : op = 42
    · refine (zk4 (decide_eq_true h42) ?_); refine ⟨(by show 2 ≤ sizeLine; decide), fun kd hkd => ?_⟩
      have s3 := za6 hkd (.tup [.str "+", .str "-"])
      refine ⟨x, kd, a, [43, 45], rfl, (by rw [za2]; rw [yf7, zz3]; rfl), hta.mono (.of (s12.trans s3)), by omega, hw.2.1, hs.1, hla, fun l1 H1 s4 h1 => ?_⟩
      have s14 := s12.trans (s3.trans s4)
      refine ⟨_, rfl, _, rfl, (by show 1 ≤ sizeLine; decide), fun lo hlo => ?_⟩
      have s5 := za6 hlo (.lst [.str (tx [op])])
      refine ⟨l1, lo, _, _, rfl, rfl, s5 _ _ h1, za2, zb7 (by simp only [zc7, List.length_cons, List.length_nil]; rw [if_pos h42, if_pos h42] at hlen; omega), fun l2 hl2 => ?_⟩
      have s6 := za6 hl2 (.lst (ze3 (if zj7 [43, 45] a = true then [[40]] ++ za9 a ++ [[41]] else za9 a) ++ [.str (tx [op])]))
      have s16 := s14.trans (s5.trans s6)
      refine ⟨_, rfl, r, _, _, .ref y, rfl, rfl, SqT.of (s16 _ _ hr1), rfl, _, rfl, decide (op = 42), (by show V.bl (decide (V.str (tx [op]) = V.str (Str.ofString "*"))) = _; rw [et]), ?_⟩
      refine (zk4 (decide_eq_true h42) ?_); refine ⟨(by show 3 ≤ sizeLine; decide), fun kd2 hkd2 => ?_⟩
      have s7 := za6 hkd2 (.tup [.str "+", .str "-", .str "*"])
      refine ⟨y, kd2, b, [43, 45, 42], rfl, (by rw [za2]; rw [yf7, zz3, star_tx]; rfl), htb.mono (.of (s16.trans s7)), by omega, hw.2.2, hs.2, hlb, fun l3 H3 s8 h3 => ?_⟩
      refine ⟨l2, l3, _, _, rfl, rfl, s8 _ _ (s7 _ _ za2), h3, zb7 (by simp only [zc7, List.length_append, List.length_cons, List.length_nil]; rw [if_pos h42, if_pos h42] at hlen; omega), fun l4 h4 => ?_⟩
      refine q l4 _ (s16.trans (s7.trans (s8.trans (za6 h4 _)))) ?_
      rw [za2, hlw, zd3, zd3, if_pos h42, if_pos h42]
      rfl
    · refine (zp5 (fun z => h42 (of_decide_eq_true z)) ?_); refine ⟨(by show 0 ≤ sizeLine; decide), fun kd hkd => ?_⟩
      have s3 := za6 hkd (.tup [])
      refine ⟨x, kd, a, [], rfl, (by rw [za2]; rfl), hta.mono (.of (s12.trans s3)), by omega, hw.2.1, hs.1, hla, fun l1 H1 s4 h1 => ?_⟩
      have s14 := s12.trans (s3.trans s4)
      refine ⟨_, rfl, _, rfl, (by show 1 ≤ sizeLine; decide), fun lo hlo => ?_⟩
      have s5 := za6 hlo (.lst [.str (tx [op])])
      refine ⟨l1, lo, _, _, rfl, rfl, s5 _ _ h1, za2, zb7 (by simp only [zc7, List.length_cons, List.length_nil]; rw [if_neg h42, if_neg h42] at hlen; omega), fun l2 hl2 => ?_⟩
      have s6 := za6 hl2 (.lst (ze3 (if zj7 [] a = true then [[40]] ++ za9 a ++ [[41]] else za9 a) ++ [.str (tx [op])]))
      have s16 := s14.trans (s5.trans s6)
      refine ⟨_, rfl, r, _, _, .ref y, rfl, rfl, SqT.of (s16 _ _ hr1), rfl, _, rfl, decide (op = 42), (by show V.bl (decide (V.str (tx [op]) = V.str (Str.ofString "*"))) = _; rw [et]), ?_⟩
      refine (zp5 (fun z => h42 (of_decide_eq_true z)) ?_); refine ⟨(by show 2 ≤ sizeLine; decide), fun kd2 hkd2 => ?_⟩
      have s7 := za6 hkd2 (.tup [.str "+", .str "-"])
      refine ⟨y, kd2, b, [43, 45], rfl, (by rw [za2]; rw [yf7, zz3]; rfl), htb.mono (.of (s16.trans s7)), by omega, hw.2.2, hs.2, hlb, fun l3 H3 s8 h3 => ?_⟩
      refine ⟨l2, l3, _, _, rfl, rfl, s8 _ _ (s7 _ _ za2), h3, zb7 (by simp only [zc7, List.length_append, List.length_cons, List.length_nil]; rw [if_neg h42, if_neg h42] at hlen; omega), fun l4 h4 => ?_⟩
      refine q l4 _ (s16.trans (s7.trans (s8.trans (za6 h4 _)))) ?_
      rw [za2, hlw, zd3, zd3, if_neg h42, if_neg h42]
      rfl
end
end Pq
namespace Pq
open PySem L2
abbrev nTx:List Str:=["_law_script","_law_way","_law_menu","_law_k","_law_opens","_law_closes","_law_words_here","_law_text_here","_law_number","_law_at","_law_sign","_law_some"]
def spTextW(K:PySem.W.Frag):Sp:=fun vs H Q _=>∃(a:Addr) (ns:List Int),vs=[.ref a]∧SqL K H a (ns.map V.int)∧ns.length≤63∧∀(z:Str) (H':Hp),z.length≤100000→Same H H'→Q (.str z) H'
theorem yk1(sep:Str):∀zs:List Str,(Str.join sep zs).length≤(zs.map (·.length)).sum+zs.length*sep.length
 |[]=>Nat.zero_le _
 |[a]=>by
  show a.length≤_
  simp
 |a::b::r=>by
  have ih:=yk1 sep (b::r)
  show(a++sep++Str.join sep (b::r)).length≤_
  rw[strLen_append,strLen_append]
  simp only[List.map_cons,List.sum_cons,List.length_cons] at ih ⊢
  have e1:(r.length+1+1)*sep.length=r.length*sep.length+sep.length+sep.length:=by rw[Nat.add_mul,Nat.add_mul,Nat.one_mul]
  have e2:(r.length+1)*sep.length=r.length*sep.length+sep.length:=by rw[Nat.add_mul,Nat.one_mul]
  omega
theorem sum_le{zs:List Str}{m:Nat}(h:∀z∈zs,z.length≤m):(zs.map (·.length)).sum≤zs.length*m:=by
 induction zs with
 |nil=>exact Nat.zero_le _
 |cons z r ih=>
  have h1:=h z (List.mem_cons_self ..)
  have h2:=ih fun y hy=>h y (List.mem_cons_of_mem _ hy)
  simp only[List.map_cons,List.sum_cons,List.length_cons,Nat.add_mul]
  omega
theorem zz6{sep:Str}{zs:List Str}{m n:Nat}(h:∀z∈zs,z.length≤m)(hn:zs.length≤n)(hs:sep.length≤1)(hm:n*m+n≤90000):
  (zs.map (·.length)).sum+zs.length*sep.length≤16777216∧(Txt.join sep zs).length≤n*m+n:=by
 have h1:=sum_le h
 have h2:zs.length*m≤n*m:=Nat.mul_le_mul_right _ hn
 have h3:zs.length*sep.length≤zs.length*1:=Nat.mul_le_mul_left _ hs
 have e:Txt.join sep zs=Str.join sep zs:=by
  unfold Txt.join
  exact StrLaws.glued_eq_join sep zs
 have h4:=yk1 sep zs
 rw[e]
 omega
theorem ya2{xs:List Str}{i:Int}(h0:0≤i)(h1:i<(xs.length:Int)):∃z∈xs,atI (xs.map V.str) i=some (.str z):=by
 have hk:i.toNat<xs.length:=by omega
 have e:i=((i.toNat:Nat):Int):=by omega
 refine⟨xs[i.toNat],List.getElem_mem hk,?_⟩
 have z:atI (xs.map V.str) ((i.toNat:Nat):Int)=some (.str xs[i.toNat]):=zh2 (by rw[List.getElem?_map,List.getElem?_eq_getElem hk];rfl)
 rw[←e] at z
 exact z
structure LTx(P:Program)(w:World)(K:PySem.W.Frag)(mg:Str→Option Value)(base:Heap)(fM fT fW:Addr)(mD tD wD:FuncData):Prop where
 mr:mg "range"=none
 ml:mg "len"=none
 mi:mg "int"=none
 GM:FnOk P w K mg base CX0 2 fM mD ["_law_script","_law_k"] (spMix K)
 bM:Binds K mD ["_law_script","_law_k"] []
 kM:PySem.W.keepIn K (.ref fM)=true
 mM:mg "_law_mix"=some (.ref fM)
 GT:∀d,d≤4→FnOk P w K mg base CX0 10 fT tD zl7 (zu6 K 3 (d+1))
 bT:Binds K tD zl7 []
 kT:PySem.W.keepIn K (.ref fT)=true
 mT:mg "_law_tree"=some (.ref fT)
 GW:FnOk P w K mg base CX0 20 fW wD psW (zs5 6)
 bW:Binds K wD psW []
 kW:PySem.W.keepIn K (.ref fW)=true
 mW:mg "_law_words"=some (.ref fW)
section
variable {P:Program}{w:World}{K:PySem.W.Frag}{mg:Str→Option Value}{base:Heap}{f:Addr}{fd:FuncData}
theorem fn_depth{fT:Addr}{tD:FuncData}(h:∀d,d≤4→FnOk P w K mg base CX0 10 fT tD zl7 (zu6 K 3 (d+1))):FnOk P w K mg base CX0 10 fT tD zl7 (fun vs H Q E=>∃d,d≤4∧zu6 K 3 (d+1) vs H Q E):=
 ⟨fun vs H Q E ⟨d,hd,q⟩=>(h d hd).len vs H Q E q,fun A outer s H args us vs Q E hr he hb hv ⟨d,hd,q⟩=>(h d hd).run A outer s H args us vs Q E hr he hb hv q⟩
theorem scText:FnScope nTx ["_law_script"] (zb2 sText):=⟨rfl,rfl,rfl,by decide +kernel,rfl,by decide +kernel,by decide +kernel⟩
theorem ok_text{fM fT fW:Addr}{mD tD wD:FuncData}(F:Fun K "_law_text" "_law_text" sText f fd)(L:LTx P w K mg base fM fT fW mD tD wD):FnOk P w K mg base CX0 21 f fd ["_law_script"] (spTextW K):=by
 refine F.okq scText (fun vs H Q E h=>?_) (fun cdv A outer s H vs Q E hr h=>?_)
 ·obtain⟨a,ns,rfl,_⟩:=h
  rfl
 obtain⟨a,ns,rfl,hS,h63,q⟩:=h
 have nd:=scText.nd
 have hr2:Room 2 _:=hr.mono (by decide)
 have GT:=fn_depth L.GT
 refine⟨_,(za0 (zb1 (i:=1) nd rfl (Or.inl rfl) (zb3 zf5 (zc2 L.GM hr2 rfl L.mM L.kM L.bM .nil zd2 (za4 (pvq 0) (za3 za5 za1))) za5)) (za0 (zb1 (i:=2) nd rfl (Or.inr rfl) za8) (za0 (ze9 (zc5 zm9 (pvq 1) za5 (ze1 _)) (za7 (zc0 (zq7 PySem.F.plainAttrs_str PySem.F.slot_str_join PySem.F.type_str_join zz2 za8 (zl0 (pe_compq (cl:=[("_law_script",s.heap.objs.size+1),("_law_menu",s.heap.objs.size+2)]) (ys:=["_law_script","_law_menu"]) (js:=[0,2]) rfl (zl3 rfl ⟨rfl,rfl,trivial⟩ (by decide) rfl (by decide +kernel) rfl (by decide +kernel) rfl ⟨⟨rfl,.inl rfl,⟨_,rfl⟩,.inl rfl⟩,⟨rfl,.inl rfl,⟨_,rfl⟩,.inl rfl⟩,trivial⟩) (zk3 rfl L.mr (zf6 (zb3 zf5 (zc2 L.GM hr2 rfl L.mM L.kM L.bM .nil zd2 (za4 (pvq 0) (za3 za5 za1))) za5) za1)) (fun _ _ _ _=>zr5) (fun _ _ _ _=>zd6 zt5 (pvq 2) (zb3 zf5 (zc2 L.GM hr2 rfl L.mM L.kM L.bM .nil zd2 (za4 (pvq 1) (za4 (pvq 0) za1))) za5) (fun _ _=>rfl))) za1 rfl)))) zc9) (za0 (ze9 (zc5 zm9 (pvq 1) za5 (ze1 _)) (za0 (zy6 (i:=4) (cl:=[("_law_script",s.heap.objs.size+1)]) (ys:=["_law_script"]) (js:=[0]) nd rfl (Or.inl rfl) rfl (zl3 rfl ⟨rfl,trivial⟩ (by decide) rfl (by decide +kernel) rfl (by decide +kernel) rfl ⟨⟨rfl,.inl rfl,⟨_,rfl⟩,.inl rfl⟩,trivial⟩) (zk3 rfl L.mr (zf6 (zb3 zg7 za5 (zb3 zf5 (zc2 L.GM hr2 rfl L.mM L.kM L.bM .nil zd2 (za4 (pvq 0) (za3 za5 za1))) za5)) za1)) (fun _ _ _ _=>zr5) (fun _ _ _ _=>zd6 (show IxR _ (rIxL K) from zi0) (ze0 (za3 za8 (za3 za8 (za3 za8 (za3 za8 (za3 za8 za1)))))) (zb3 zf5 (zc2 L.GM hr2 rfl L.mM L.kM L.bM .nil zd2 (za4 (pvq 1) (za4 (pvq 0) za1))) za5) (fun _ _=>rfl))) (za0 (zy6 (i:=5) (cl:=[]) (ys:=[]) (js:=[]) nd rfl (Or.inl rfl) rfl (zl3 rfl trivial (by decide) rfl (by decide +kernel) rfl (by decide +kernel) rfl trivial) (pi_listq (pvq 4)) (fun _ _ _ _=>zr5) (fun _ _ _ _=>zd6 (show IxR _ (rIxL K) from zi0) (ze0 (za3 za8 (za3 za8 za1))) (zh0 zu0 rfl L.mi PyProof.Rows.boot_int (zl0 (zf0 op_in_str za8 (pvq 0) rfl) za1 rfl)) (fun _ _=>rfl))) (za7 (zc0 (zb3 zh1 (zb3 zh1 (zq7 PySem.F.plainAttrs_str PySem.F.slot_str_join PySem.F.type_str_join zz2 za8 (za4 (pvq 4) za1)) za8) (zq7 PySem.F.plainAttrs_str PySem.F.slot_str_join PySem.F.type_str_join zz2 za8 (zh9 (pe_revq (pvq 5) (zv1 zu4 za5)) za1))))))) zc9) (za0 (zb1 (i:=6) nd rfl (Or.inl rfl) (zc2 L.GW (hr.mono (by decide)) rfl L.mW L.kW L.bW .nil zd2 (zf4 (zc2 GT (hr.mono (by decide)) rfl L.mT L.kT L.bT .nil zd2 (za4 (pvq 0) (za3 za5 (zf6 (zb3 zg7 za5 (zb3 zf5 (zc2 L.GM hr2 rfl L.mM L.kM L.bM .nil zd2 (za4 (pvq 0) (za3 za5 za1))) za5)) (za3 za5 za1))))) za1))) (za0 (zb1 (i:=7) nd rfl (Or.inl rfl) (zq7 PySem.F.plainAttrs_str PySem.F.slot_str_join PySem.F.type_str_join zz2 (zd6 zi0 (ze0 (za3 za8 (za3 za8 za1))) (zb3 zf5 (zc2 L.GM hr2 rfl L.mM L.kM L.bM .nil zd2 (za4 (pvq 0) (za3 za5 za1))) za5) (fun _ _=>rfl)) (za4 (pvq 6) za1))) (za0 (yf4 PassesOwn.never rfl (zk3 rfl L.mr (zf6 (zb3 zf5 (zc2 L.GM hr2 rfl L.mM L.kM L.bM .nil zd2 (za4 (pvq 0) (za3 za5 za1))) za5) za1)) (zy7 (i:=3) nd rfl (Or.inl rfl)) (za0 (zb1 (i:=8) nd rfl (Or.inl rfl) (zc2 L.GM hr2 rfl L.mM L.kM L.bM .nil zd2 (za4 (pvq 0) (zf6 (zb3 zg7 za5 (pvq 3)) za1)))) (za0 (zb1 (i:=9) nd rfl (Or.inl rfl) (zb3 zf5 (pvq 8) (zb3 zg7 (zd7 zg4 rfl L.ml PySem.boot_len (za4 (pvq 7) za1)) za5))) (za0 (zb1 (i:=10) nd rfl (Or.inl rfl) (zd6 zt5 (pvq 2) (zb3 zf5 (zb3 zl2 (pvq 8) za5) za5) (fun _ _=>rfl))) (za0 (zb1 (i:=11) nd rfl (Or.inl rfl) (ze0 (zf6 (zb3 zh1 (zb3 zh1 (zg5 zq4 (pvq 7) zl8 (zh4 (pvq 9))) (pvq 10)) (zg5 zq4 (pvq 7) (zh4 (zb3 zg7 (pvq 9) za5)) zl8)) (zf6 (zb3 zh1 (zg5 zq4 (pvq 7) zl8 (zh4 (pvq 9))) (zg5 zq4 (pvq 7) (zh4 (zb3 zg7 (pvq 9) za5)) zl8)) (zf6 (zb3 zh1 (zb3 zh1 (zg5 zq4 (pvq 7) zl8 (zh4 (pvq 9))) (pvq 10)) (zg5 zq4 (pvq 7) (zh4 (pvq 9)) zl8)) (zh9 (zg5 zq4 (pvq 7) zl8 (zh4 (pvq 9))) za1)))))) (za7 (zb1 (i:=7) nd rfl (Or.inl rfl) (zd6 zi0 (pvq 11) (zb3 zf5 (zb3 zl2 (pvq 8) za5) za5) (fun _ _=>rfl))))))))) (za7 (zc0 (pvq 7)))))))))),?_⟩
 have menu_len:(Str.ofString "ab09()[],+-* \n()[],x1.=").cps.toList.length=23:=by decide +kernel
 generalize Str.ofString "ab09()[],+-* \n()[],x1.="=menu at menu_len
 have menu_small:menu.length≤sizeLine:=zb7 (by have e:menu.length=menu.cps.toList.length:=(Array.length_toList).symm;omega)
 have menu_at:∀m:Int,∃c,atI menu.cps.toList (m % 23)=some c:=fun m=>by
  have i0:0≤m % 23:=Int.emod_nonneg _ (by decide)
  have i1:m % 23<23:=Int.emod_lt_of_pos _ (by decide)
  have hk:(m % 23).toNat<menu.cps.toList.length:=by omega
  have e:m % 23=(((m % 23).toNat:Nat):Int):=by omega
  exact⟨_,by rw[e];exact zh2 (List.getElem?_eq_getElem (by omega))⟩
 have nope:∀ {i j:Int},decide (V.int i=V.int j)=true→i=j:=fun z=>V.int.inj (of_decide_eq_true z)
 refine⟨_,rfl,a,ns,60,rfl,hS,h63,_,_,rfl,rfl,(by show(0:Int)<6;decide),?_⟩
 refine⟨_,rfl,rfl,_,rfl,?_⟩
 refine ite2 (fun c1=>?_) (fun c1=>?_)
 ·
  have b0:0≤mix ns 59 % 31:=Int.emod_nonneg _ (by decide)
  have b1:mix ns 59 % 31<31:=Int.emod_lt_of_pos _ (by decide)
  refine⟨rfl,_,rfl,a,ns,59,rfl,hS,h63,_,_,rfl,rfl,(by show(0:Int)<31;decide),_,rfl,by omega,by omega,fun D hD=>?_⟩
  refine zq1 (fun i H5 ys=>∃zs:List Str,ys=zs.map V.str∧zs.length=i∧(∀z∈zs,z.length≤3)∧Same H H5∧H5 D=some (.lst ys)) ⟨[],rfl,rfl,(fun z hz=>nomatch hz),za6 hD _,za2⟩ ?_ ?_
  ·rintro i H5 ys hi ⟨zs,rfl,hn,hz,s5,e5⟩
   obtain⟨c,hc⟩:=menu_at (mix ns (0+(i:Int)))
   refine⟨_,rfl,_,rfl,_,rfl,a,ns,0+(i:Int),rfl,s5.seq hS,h63,_,_,rfl,rfl,(by show(0:Int)<23;decide),menu,_,c,rfl,rfl,menu_small,hc,e5,zb7 (by rw[List.length_map];omega),zs++[⟨#[c]⟩],?_,?_,?_,zm5 s5 hD _,za2⟩
   ·rw[List.map_append];rfl
   ·rw[List.length_append,hn];rfl
   ·intro z hz'
    rcases List.mem_append.mp hz' with y|y
    ·exact hz z y
    ·rw[List.mem_singleton.mp y];show 1≤3;decide
  ·rintro H1 ys ⟨zs,rfl,hn,hz,s1,e1⟩
   obtain⟨j1,j2⟩:=zz6 (sep:=Str.ofString "") (m:=3) (n:=31) hz (by omega) (by decide) (by omega)
   exact⟨_,D,zs,rfl,rfl,SqL.of e1,j1,q _ _ (by omega) s1⟩
 refine⟨_,rfl,rfl,_,rfl,?_⟩
 refine ite2 (fun c2=>?_) (fun c2=>?_)
 ·
  have b0:0≤mix ns 59 % 6:=Int.emod_nonneg _ (by decide)
  have b1:mix ns 59 % 6<6:=Int.emod_lt_of_pos _ (by decide)
  refine⟨_,rfl,a,ns,59,rfl,hS,h63,_,_,rfl,rfl,(by show(0:Int)<6;decide),_,_,rfl,rfl,_,rfl,by omega,by omega,fun D hD=>?_⟩
  refine zq1 (fun i H5 ys=>∃zs:List Str,ys=zs.map V.str∧zs.length=i∧(∀z∈zs,z.length≤3)∧Same H H5∧H5 D=some (.lst ys)) ⟨[],rfl,rfl,(fun z hz=>nomatch hz),za6 hD _,za2⟩ ?_ ?_
  ·rintro i H5 ys hi ⟨zs,rfl,hn,hz,s5,e5⟩
   refine⟨(by show 5≤sizeLine;decide),fun l5 h5=>?_⟩
   have g5:=za6 h5 (.lst [.str "(",.str "[",.str "f(",.str "f (",.str "1+("])
   obtain⟨z,hzm,hat⟩:=ya2 (xs:=[Str.ofString "(",Str.ofString "[",Str.ofString "f(",Str.ofString "f (",Str.ofString "1+("]) (i:=mix ns (0+(i:Int)) % 5) (Int.emod_nonneg _ (by decide)) (Int.emod_lt_of_pos _ (by decide))
   have hzl:z.length≤3:=(show ∀z∈[Str.ofString "(",Str.ofString "[",Str.ofString "f(",Str.ofString "f (",Str.ofString "1+("],z.length≤3 by decide +kernel) z hzm
   refine⟨_,rfl,_,rfl,a,ns,0+(i:Int),rfl,(s5.trans g5).seq hS,h63,_,_,rfl,rfl,(by show(0:Int)<5;decide),l5,_,_,_,rfl,rfl,SqL.of za2,hat,g5 _ _ e5,zb7 (by rw[List.length_map];omega),zs++[z],?_,?_,?_,zm5 (s5.trans g5) hD _,za2⟩
   ·rw[List.map_append];rfl
   ·rw[List.length_append,hn];rfl
   ·intro y hy
    rcases List.mem_append.mp hy with y'|y'
    ·exact hz y y'
    ·rw[List.mem_singleton.mp y'];exact hzl
  ·rintro H1 ys ⟨zs,rfl,hn,hz,s1,e1⟩
   refine⟨_,rfl,D,rfl,⟨_,SqL.of e1⟩,fun D2 hD2=>?_⟩
   refine comp_list (xs:=zs.map V.str) (fun i H5 ys=>∃cs:List Str,ys=cs.map V.str∧cs.length=i∧(∀z∈cs,z.length≤3)∧Same H1 H5∧H5 D2=some (.lst ys)) ⟨[],rfl,rfl,(fun z hz=>nomatch hz),za6 hD2 _,za2⟩ (fun i H5 ys _ ⟨_,_,_,_,s5,_⟩=>SqL.of (s5 _ _ e1)) ?_ ?_
   ·rintro i x H5 ys hx ⟨cs,rfl,hn2,hz2,s5,e5⟩
    rw[List.getElem?_map] at hx
    obtain⟨zi,hzi,rfl⟩:=Option.map_eq_some_iff.mp hx
    have hil:i<zs.length:=(List.getElem?_eq_some_iff.mp hzi).1
    refine⟨(by show 2≤sizeLine;decide),fun l5 h5=>?_⟩
    have g5:=za6 h5 (.lst [.str "]",.str ")"])
    refine⟨_,rfl,_,_,rfl,rfl,.inr ⟨_,rfl,?_⟩⟩
    obtain⟨z,hzm,hat⟩:=ya2 (xs:=[Str.ofString "]",Str.ofString ")"]) (i:=if(!(Builtin.Str.occurrences zi (Str.ofString "(") 0 zi.length 1).isEmpty)=true then 1 else 0) (by split<;>decide) (by split<;>decide)
    have hzl:z.length≤3:=(show ∀z∈[Str.ofString "]",Str.ofString ")"],z.length≤3 by decide +kernel) z hzm
    refine⟨l5,_,_,_,rfl,rfl,SqL.of za2,hat,g5 _ _ e5,zb7 (by rw[List.length_map];omega),cs++[z],?_,?_,?_,zm5 (s5.trans g5) hD2 _,za2⟩
    ·rw[List.map_append];rfl
    ·rw[List.length_append,hn2];rfl
    ·intro y hy
     rcases List.mem_append.mp hy with y'|y'
     ·exact hz2 y y'
     ·rw[List.mem_singleton.mp y'];exact hzl
   ·rintro H2 ys ⟨cs,rfl,hn2,hz2,s2,e2⟩
    rw[List.length_map] at hn2
    obtain⟨j1,j2⟩:=zz6 (sep:=Str.ofString "") (m:=3) (n:=31) hz (by omega) (by decide) (by omega)
    obtain⟨k1,k2⟩:=zz6 (sep:=Str.ofString "") (zs:=cs.reverse) (m:=3) (n:=31) (fun z hz'=>hz2 z (List.mem_reverse.mp hz')) (by rw[List.length_reverse];omega) (by decide) (by omega)
    have la:(Str.ofString "a").length=1:=by decide
    refine⟨rfl,_,rfl,_,D,zs,rfl,rfl,SqL.of (s2 _ _ e1),j1,_,_,rfl,rfl,zb7 (by omega),rfl,_,rfl,1,rfl,D2,_,rfl,rfl,SqL.of e2,fun p3 h3=>?_⟩
    refine⟨_,p3,cs.reverse,rfl,rfl,SqL.of (by rw[za2,List.map_reverse]),k1,_,_,rfl,rfl,zb7 (by rw[strLen_append];omega),q _ _ (by rw[strLen_append,strLen_append];omega) (s1.trans (s2.trans (za6 h3 _)))⟩
 ·
  have m0:0≤mix ns 59 % 3:=Int.emod_nonneg _ (by decide)
  have m1:mix ns 59 % 3<3:=Int.emod_lt_of_pos _ (by decide)
  obtain⟨d,hd⟩:∃d:Nat,1+mix ns 59 % 3=(d:Int):=⟨(1+mix ns 59 % 3).toNat,by omega⟩
  refine⟨_,rfl,_,rfl,a,ns,59,rfl,hS,h63,_,_,rfl,rfl,(by show(0:Int)<3;decide),_,_,rfl,rfl,d,by omega,a,ns,1,(by show[V.ref a,V.int 1,V.int (1+mix ns 59 % 3),V.int 3]=_;rw[hd];rfl),hS,h63,fun r H1 s1 T1=>?_⟩
  obtain⟨tw,ts,tl⟩:=ya7 ns d 1
  have tdp:=zk6 ns 3 d 1
  have hwB:wB d≤400:=by
   have:d=0∨d=1∨d=2∨d=3:=by omega
   rcases this with rfl|rfl|rfl|rfl<;>decide
  generalize zd4 ns 3 d 1=t at T1 tw ts tl tdp
  refine⟨r,t,rfl,T1,(by show t.deep≤5;omega),tw,ts,by omega,fun l H2 s2 hl=>?_⟩
  have s12:=s1.trans s2
  have gd:=zk1 t tw ts
  refine⟨(by show 2≤sizeLine;decide),fun lx hlx=>?_⟩
  have k1:=za6 hlx (.lst [.str "",.str " "])
  obtain⟨sep,hsm,hat⟩:=ya2 (xs:=[Str.ofString "",Str.ofString " "]) (i:=mix ns 58 % 2) (Int.emod_nonneg _ (by decide)) (Int.emod_lt_of_pos _ (by decide))
  have hsl:sep.length≤1:=(show ∀z∈[Str.ofString "",Str.ofString " "],z.length≤1 by decide +kernel) sep hsm
  have hwz:∀z∈(za9 t).map tx,z.length≤20:=fun z hz=>by
   obtain⟨w',hw',rfl⟩:=List.mem_map.mp hz
   rw[ze4]
   exact(gd w' hw').1
  obtain⟨j1,j2⟩:=zz6 (sep:=sep) (zs:=(za9 t).map tx) (m:=20) (n:=400) hwz (by rw[List.length_map];omega) hsl (by omega)
  refine⟨_,rfl,a,ns,58,rfl,(s12.trans k1).seq hS,h63,_,_,rfl,rfl,(by show(0:Int)<2;decide),lx,_,_,_,rfl,rfl,SqL.of za2,hat,rfl,_,rfl,sep,l,(za9 t).map tx,rfl,rfl,SqL.of (by rw[k1 _ _ hl];unfold ze3;rw[List.map_map];rfl),j1,?_⟩
  have s13:=s12.trans k1
  generalize upd H2 lx (.lst [.str "",.str " "])=H3 at s13
  generalize Txt.join sep ((za9 t).map tx)=z0 at j2
  have b0:0≤mix ns 57 % 3:=Int.emod_nonneg _ (by decide)
  have b1:mix ns 57 % 3<3:=Int.emod_lt_of_pos _ (by decide)
  refine⟨_,rfl,a,ns,57,rfl,s13.seq hS,h63,_,_,rfl,rfl,(by show(0:Int)<3;decide),_,rfl,by omega,by omega,?_⟩
  have hn3:(mix ns 57 % 3).toNat≤2:=by omega
  refine zt8 (lo:=0) (n:=(mix ns 57 % 3).toNat) (fun k σ Hk=>∃(z:Str) (v3 v8 v9 v10 v11:Option V),σ=[some (.ref a),some (.int (mix ns 60 % 6)),some (.str menu),v3,none,none,some (.ref l),some (.str z),v8,v9,v10,v11]∧Same H Hk∧z.length+1≤8401*2 ^ k) ⟨z0,none,none,none,none,none,rfl,s13,(by show z0.length+1≤8401*1;omega)⟩ ?_ ?_
  ·rintro i σ Hk hi ⟨z,v3,v8,v9,v10,v11,rfl,sk,hzl⟩
   have hp2:2 ^ i≤2:=by
    have:i=0∨i=1:=by omega
    rcases this with rfl|rfl<;>decide
   have hzb:z.length≤16802:=by omega
   have hzs:z.length≤sizeLine:=zb7 (by omega)
   refine⟨_,rfl,_,rfl,_,_,rfl,rfl,a,ns,54+(0+(i:Int)),rfl,sk.seq hS,h63,?_⟩
   generalize mix ns (54+(0+(i:Int)))=m
   refine⟨_,rfl,_,rfl,_,rfl,hzs,_,_,rfl,rfl,_,_,rfl,rfl,(by omega),?_⟩
   obtain⟨c,hc⟩:=menu_at (m / 512)
   refine⟨_,rfl,_,rfl,_,_,rfl,rfl,⟨by decide,by decide⟩,_,_,rfl,rfl,(by show(0:Int)<23;decide),menu,_,c,rfl,rfl,menu_small,hc,?_⟩
   have sl:∀lo hi,(Txt.slice z lo hi).length≤16802:=fun lo hi=>Nat.le_trans (Txt.slice_le z lo hi) hzb
   have sls:∀lo hi,(Txt.slice z lo hi).length≤sizeLine:=fun lo hi=>zb7 (Nat.le_trans (sl lo hi) (by omega))
   have one:(⟨#[c]⟩:Str).length=1:=rfl
   have cat:∀x y:Str,(x++y).length=x.length+y.length:=fun x y=>strLen_append x y
   have p1:=Txt.slice_le z none (some (m % ((z.length:Int)+1)))
   have q1:=Txt.slice_le z (some (m % ((z.length:Int)+1)+1)) none
   have q0:=Txt.slice_le z (some (m % ((z.length:Int)+1))) none
   refine⟨_,rfl,_,rfl,_,rfl,z,rfl,sls _ _,_,rfl,_,_,rfl,rfl,zb7 (by simp only[one];omega),?_⟩
   refine⟨_,rfl,_,rfl,_,_,rfl,rfl,_,rfl,z,rfl,sls _ _,_,_,rfl,rfl,zb7 (by simp only[cat,one];omega),?_⟩
   refine⟨_,rfl,_,rfl,_,rfl,z,rfl,sls _ _,_,rfl,_,rfl,_,_,rfl,rfl,_,rfl,z,rfl,sls _ _,_,_,rfl,rfl,zb7 (by omega),?_⟩
   refine⟨_,rfl,_,rfl,_,rfl,z,rfl,sls _ _,_,rfl,_,_,rfl,rfl,zb7 (by simp only[one];omega),?_⟩
   refine⟨_,rfl,_,rfl,_,rfl,z,rfl,sls _ _,_,_,rfl,rfl,zb7 (by simp only[cat,one];omega),?_⟩
   refine⟨_,rfl,_,rfl,_,rfl,z,rfl,sls _ _,(by show 4≤sizeLine;decide),fun l4 h4=>?_⟩
   obtain⟨z',hzm,hat'⟩:=ya2 (xs:=[Txt.slice z none (some (m % ((z.length:Int)+1)))++⟨#[c]⟩++Txt.slice z (some (m % ((z.length:Int)+1)+1)) none,Txt.slice z none (some (m % ((z.length:Int)+1)))++Txt.slice z (some (m % ((z.length:Int)+1)+1)) none,
    Txt.slice z none (some (m % ((z.length:Int)+1)))++⟨#[c]⟩++Txt.slice z (some (m % ((z.length:Int)+1))) none,Txt.slice z none (some (m % ((z.length:Int)+1)))]) (i:=m / 12000 % 4) (Int.emod_nonneg _ (by decide)) (Int.emod_lt_of_pos _ (by decide))
   have hz'l:z'.length+1≤8401*2 ^ (i+1):=by
    rw[Nat.pow_succ]
    have:z'.length≤2*z.length+1:=by
     simp only[List.mem_cons,List.not_mem_nil,or_false] at hzm
     rcases hzm with e|e|e|e<;>rw[e]<;>(try simp only[cat,one])<;>omega
    omega
   refine⟨_,rfl,_,rfl,_,_,rfl,rfl,⟨by decide,by decide⟩,_,_,rfl,rfl,(by show(0:Int)<4;decide),l4,_,_,_,rfl,rfl,SqL.of za2,hat',?_⟩
   exact⟨z',_,_,_,_,_,rfl,sk.trans (za6 h4 _),hz'l⟩
  ·rintro σ Hk ⟨z,v3,v8,v9,v10,v11,rfl,sk,hzl⟩
   have hp4:2 ^ (mix ns 57 % 3).toNat≤4:=by
    have:(mix ns 57 % 3).toNat=0∨(mix ns 57 % 3).toNat=1∨(mix ns 57 % 3).toNat=2:=by omega
    rcases this with e|e|e<;>rw[e]<;>decide
   exact⟨_,rfl,q z Hk (by omega) sk⟩
end
end Pq
namespace Pq
open PySem L2
theorem zn5(s:List Nat):∀(m i:Nat) (st:List (Nat×Bool)) (w f n:Bool) (p:Nat),s.length - i<m→i≤s.length→zj3 s i st w f n=some p→p≤s.length
 |0,i,st,w,f,n,p,hm,hi,h=>by omega
 |m+1,i,st,w,f,n,p,hm,hi,h=>by
  by_cases hl:i<s.length
  ·have e:s[i]? = some s[i]:=List.getElem?_eq_getElem hl
   by_cases hb:inL blanksL s[i]=true
   ·rw[yg3 (by rw[zc4 e];exact hb)] at h
    exact zn5 s m (i+1) st w f n p (by omega) (by omega) h
   ·rw[yg4 e (Bool.eq_false_iff.mpr hb)] at h
    split at h
    ·rename_i c
     have g:=yb2 (s:=s) (i:=i) (f:=inL zb0) (by rw[zc4 e];exact((Bool.and_eq_true _ _).mp c).2)
     exact zn5 s m _ _ _ _ _ p (by omega) (zu8 hi) h
    ·split at h
     ·rename_i c
      have g:=numJ_gt (s:=s) (i:=i) (by rw[zc4 e];exact((Bool.and_eq_true _ _).mp c).2)
      exact zn5 s m _ _ _ _ _ p (by omega) (yf8 hl).2 h
     ·split at h
      ·exact zn5 s m (i+1) _ _ _ _ p (by omega) (by omega) h
      ·split at h
       ·exact zn5 s m (i+1) _ _ _ _ p (by omega) (by omega) h
       ·split at h
        ·exact zn5 s m (i+1) _ _ _ _ p (by omega) (by omega) h
        ·cases h
         omega
  ·rw[yg2 (by omega)] at h
   split at h
   ·cases h
    exact Nat.le_refl _
   ·cases h
theorem tx_of(z:Str):z=tx z.cps.toList:=by
 obtain⟨c⟩:=z
 show(⟨c⟩:Str)=⟨c.toList.toArray⟩
 rw[Array.toArray_toList]
theorem boot_VE:bootBuiltins "ValueError"=some (.type "ValueError"):=by decide +kernel
structure ErrT(K:PySem.W.Frag)(mg:Str→Option Value)(CP CB CT:Addr):Prop where
 mP:mg "PrintError"=some (.ref CP)
 mB:mg "BadBits"=some (.ref CB)
 mT:mg "BadText"=some (.ref CT)
 mV:mg "ValueError"=none
 mI:mg "isinstance"=none
 ex:PySem.W.exmOne K (.ref CT) (.ref CP)=some true
 cT:PySem.W.ExqCls K CT
 iV:PySem.W.kitOne K (.ref CT) (.type "ValueError")=some true
 iB:PySem.W.kitOne K (.ref CT) (.ref CB)=some false
 na:NoAttr K CT "place"
 hd:PySem.W.hasDictIn K CT=true
abbrev nLaw:List Str:=["_law_script","_law_text_here","_law_kept","e","_law_due","_law_good"]
def spLaw(K:PySem.W.Frag):Sp:=fun vs H Q _=>∃(a:Addr) (ns:List Int),vs=[.ref a]∧SqL K H a (ns.map V.int)∧ns.length≤63∧∀H',Q (.bl true) H'
section
variable {P:Program}{w:World}{K:PySem.W.Frag}{mg:Str→Option Value}{base:Heap}{f:Addr}{fd:FuncData}{CP CB CT:Addr}
theorem scLaw:FnScope nLaw ["_law_script"] (zb2 sLaw):=⟨rfl,rfl,rfl,by decide +kernel,rfl,by decide +kernel,by decide +kernel⟩
theorem ok_law{fX fR fG fW:Addr}{xD rD gD wD:FuncData}(F:Fun K "law" "law" sLaw f fd)(R:ErrT K mg CP CB CT)
  (GX:FnOk P w K mg base CX0 21 fX xD ["_law_script"] (spTextW K)) (bX:Binds K xD ["_law_script"] []) (kX:PySem.W.keepIn K (.ref fX)=true) (mX:mg "_law_text"=some (.ref fX))
  (GR:FnOk P w K mg base (CXd P w) 138 fR rD ["text"] (spRead (EbX CT))) (bR:Binds K rD ["text"] []) (kR:PySem.W.keepIn K (.ref fR)=true) (mR:mg "read"=some (.ref fR))
  (GG:FnOk P w K mg base CX0 2 fG gD ["_law_text_here"] spWrong) (bG:Binds K gD ["_law_text_here"] []) (kG:PySem.W.keepIn K (.ref fG)=true) (mG:mg "_law_wrong"=some (.ref fG))
  (GW:FnOk P w K mg base CX0 1 fW wD ["_law_found"] spLW) (bW:Binds K wD ["_law_found"] []) (kW:PySem.W.keepIn K (.ref fW)=true) (mW:mg "_law_whole"=some (.ref fW)):
  FnOk P w K mg base CX0 140 f fd ["_law_script"] (spLaw K):=by
 refine F.okq scLaw (fun vs H Q E h=>?_) (fun cdv A outer s H vs Q E hr h=>?_)
 ·obtain⟨a,ns,rfl,_⟩:=h
  rfl
 obtain⟨a,ns,rfl,hS,h63,q⟩:=h
 have nd:=scLaw.nd
 have hr138:Room 138 _:=hr.mono (by decide)
 refine⟨_,za0 (zb1 (i:=1) nd rfl (Or.inl rfl) (zc2 GX (hr.mono (by decide)) rfl mX kX bX .nil zd2 (za4 (pvq 0) za1)))<|
  za0 (zb1 (i:=2) nd rfl (Or.inl rfl) pe_nonq)<|
  za0 (ps_tryXq (i:=3) (C:=CP) rfl rfl rfl rfl R.mP nd rfl rfl (fun _ _ _ hp=>za7 (zd5 (pe_callSq GR hr138 rfl mR kR bR hp (za4 (pvq 1) za1))))
   (fun _ _=>za7 (zb1 (i:=2) nd rfl (Or.inl rfl) (pvq 3))))<|
  za0 (zb1 (i:=4) nd rfl (Or.inl rfl) (zc2 GG (hr.mono (by decide)) rfl mG kG bG .nil zd2 (za4 (pvq 1) za1)))<|
  za0 (ze9 (zc5 yc2 (pvq 4) za5 (ze1 _)) (za7 (zc0 (zf0 op_isN (pvq 2) pe_nonq (ze1 _)))) zc9)<|
  za0 (zb1 (i:=5) nd rfl (Or.inl rfl) (zi6 (zd7 ya1 rfl R.mI PyProof.Rows.boot_isinstance (za4 (pvq 2) (za4 (zg6 rfl R.mT (v:=.ref CT) rfl) za1)))
   (zi6 (zd7 ya1 rfl R.mI PyProof.Rows.boot_isinstance (za4 (pvq 2) (za4 (zy9 (v:=.ty "ValueError") rfl R.mV boot_VE rfl) za1)))
   (zh8 (zy8 (zd7 ya1 rfl R.mI PyProof.Rows.boot_isinstance (za4 (pvq 2) (za4 (zg6 rfl R.mB (v:=.ref CB) rfl) za1))))))))<|
  za7 (zc0 (zi6 (pvq 5) (zi6 (zc2 GW (hr.mono (by decide)) rfl mW kW bW .nil zd2 (zr6 (yi9 (pvq 2) rfl) za1)) (zh8 (zf0 zm9 (yi9 (pvq 2) rfl) (pvq 4) (ze1 _)))))),?_⟩
 refine⟨_,rfl,a,ns,rfl,hS,h63,fun z H1 hz s1=>?_⟩
 rw[tx_of z]
 have hzl:z.cps.toList.length≤100000:=by rw[Array.length_toList];exact hz
 generalize z.cps.toList=t at hzl
 obtain⟨n,r,hg⟩:=ye7 t
 obtain⟨g1,g2,g3⟩:=sim_whole hg
 refine⟨_,rfl,t,n,r,rfl,hzl,hg,fun tr j er ra H2 _ s2=>?_,fun p er H2 s2=>?_⟩
 ·
  refine⟨_,rfl,t,rfl,by omega,fun H3 s3=>?_⟩
  rw[g1 tr j er]
  refine⟨_,rfl,_,_,rfl,rfl,_,rfl,?_⟩
  refine zk4 (by decide) ⟨_,rfl,rfl,?_⟩
  exact q _
 ·
  have hm:=g2 p er
  have hpl:=zn5 t _ 0 [] true false false p (Nat.lt_succ_self _) (Nat.zero_le _) hm
  refine⟨Nat.lt_of_le_of_lt (Nat.le_trans hpl hzl) (by decide),fun H3 d s3 hd=>⟨R.ex,fun e d' ed he=>⟨_,rfl,?_⟩⟩⟩
  cases ed
  have s4:=za6 he (excD e (.ref CT) d)
  refine⟨_,rfl,t,rfl,by omega,fun H4 s5=>?_⟩
  have x1:H4 e=some (excD e (.ref CT) d):=s5 _ _ za2
  have x2:H4 d=some (.xd [("place",.int (p:Int))]):=s5 _ _ (s4 _ _ hd)
  rw[hm]
  refine⟨_,rfl,_,_,rfl,rfl,_,rfl,?_⟩
  refine zp5 (fun c=>by have:=of_decide_eq_true c;exact absurd this (by show ¬((p:Int)<0);omega)) ?_
  refine⟨_,rfl,e,CT,d,_,_,_,rfl,x1,R.cT,rfl,yk0,_,rfl,zj4 ?_⟩
  refine⟨_,rfl,e,CT,d,_,_,_,rfl,x1,R.cT,rfl,R.iV,_,rfl,zj4 ?_⟩
  refine⟨_,rfl,e,CT,d,_,_,_,rfl,x1,R.cT,rfl,R.iB,_,rfl,?_⟩
  have lk:List.lookup ("place":Str) [(("place":Str),V.int (p:Int))]=some (V.int (p:Int)):=by simp[List.lookup]
  refine⟨_,rfl,_,rfl,zj4 ⟨_,rfl,e,CT,d,_,_,rfl,x1,x2,R.cT,R.na,R.hd,lk,(p:Int),rfl,_,rfl,zj4 ?_⟩⟩
  refine⟨_,rfl,e,CT,d,_,_,rfl,x1,x2,R.cT,R.na,R.hd,lk,_,rfl,rfl,?_⟩
  have fin:Q (.bl (decide (V.int (p:Int)=V.int (p:Int)))) H4:=by
   rw[decide_eq_true rfl]
   exact q _
  exact fin
end
end Pq
namespace Pq
open PySem L2
def FnIn(K:PySem.W.Frag)(n q:Str)(st:Stmt)(f:Addr):Prop:=∃fd,Fun K n q st f fd
structure FnG(K:PySem.W.Frag)(n:Str)(st:Stmt)(f:Addr):Prop where
 a:PySem.W.nsIn K mainGlobals n=some (some (.ref f))
 i:FnIn K n n st f
structure FnM(K:PySem.W.Frag)(C:Addr)(n q:Str)(st:Stmt)(f:Addr):Prop where
 a:PySem.W.findIn K (.ref C) n=some (some (.ref f))
 m:PySem.W.isFn K (.ref f)=true
 i:FnIn K n q st f
theorem zm3{K:PySem.W.Frag}{n:Str}{st:Stmt}{f:Addr}{od an:Option Addr}{sl:Array (Option Value)}{oc kV dc pm cd ct:Value}(a:PySem.W.nsIn K mainGlobals n=some (some (.ref f)))(l:K.lookup f=some ⟨oc,od,.func (PySem.W.fnOf n n (zp9 st) (zj8 st) (zb2 st) .none kV dc pm an cd ct),sl⟩)(c:PySem.W.codeIn K cd n=true)(k:PySem.W.keepIn K (.ref f)=true):FnG K n st f:=⟨a,_,fun_mk (st:=st) l c k⟩
theorem zi1{K:PySem.W.Frag}{C:Addr}{n q:Str}{st:Stmt}{f:Addr}{od an:Option Addr}{sl:Array (Option Value)}{oc kV dc pm cd ct:Value}(a:PySem.W.findIn K (.ref C) n=some (some (.ref f)))(m:PySem.W.isFn K (.ref f)=true)(l:K.lookup f=some ⟨oc,od,.func (PySem.W.fnOf n q (zp9 st) (zj8 st) (zb2 st) .none kV dc pm an cd ct),sl⟩)(c:PySem.W.codeIn K cd q=true)(k:PySem.W.keepIn K (.ref f)=true):FnM K C n q st f:=⟨a,m,_,fun_mk (st:=st) l c k⟩
structure ClsK(K:PySem.W.Frag)(C:Addr):Prop where
 g:PySem.W.plainGet K C Str.empty=true
 h:PySem.W.hasDictIn K C=true
 o:PySem.W.plainOver K C=true
 s:PySem.W.findIn K (.ref C) "__setattr__"=some (some (.builtin "object.__setattr__"))
 m:PySem.W.makesIn K C=true
 k:PySem.W.keepIn K (.ref C)=true
theorem zs1{P:Program}{w:World}{K:PySem.W.Frag}{mg:Str→Option Value}{base:Heap}{f fi:Addr}{fd iD:FuncData}(F:Fun K "_law_words" "_law_words" yh8 f fd)(FI:Fun K "_law_inner" "_law_inner" yi2 fi iD)(mF:mg "_law_words"=some (.ref f))(mI:mg "_law_inner"=some (.ref fi))(bF:Binds K fd psW [])(bI:Binds K iD psI [])
  (mr:mg "range"=none) (ml:mg "len"=none) (mi:mg "int"=none) (ms:mg "str"=none):∀n,FnOk P w K mg base CX0 (2*n) f fd psW (zs5 n)
 |0=>fn_no fun _ _ _ _ h=>h
 |n+1=>ok_words F mF bF mr ml mi ms (zs1 F FI mF mI bF bI mr ml mi ms n) (ok_inner FI (zs1 F FI mF mI bF bI mr ml mi ms n) bF F.kp mF) bI FI.kp mI
theorem yh6{P:Program}{w:World}{K:PySem.W.Frag}{mg:Str→Option Value}{base:Heap}{f fm:Addr}{fd md:FuncData}(F:Fun K "_law_tree" "_law_tree" sTree f fd)(mF:mg "_law_tree"=some (.ref f))(bF:Binds K fd zl7 [])(mr:mg "range"=none)(mt:mg "tuple"=none)
  (GM:FnOk P w K mg base CX0 2 fm md ["_law_script","_law_k"] (spMix K)) (bM:Binds K md ["_law_script","_law_k"] []) (kM:PySem.W.keepIn K (.ref fm)=true) (mM:mg "_law_mix"=some (.ref fm)):∀d,FnOk P w K mg base CX0 (d+2) f fd zl7 (zu6 K 3 d)
 |0=>fn_no fun _ _ _ _ h=>h
 |d+1=>ok_tree (by omega) (by decide) F mF bF mr mt GM bM kM mM (yh6 F mF bF mr mt GM bM kM mM d)
theorem all_mk{l:PySem.W.OpenLaw}{w:World}{K:PySem.W.Frag}{h:Heap}{mg:Str→Option Value}{fa C CP CB CT aS aP frd fce fmi fwh ftr fwo fir fru fwr ftx fla fmini fma fmp fmn fmt fmr fme fml fmw fms fmpr fmo fmnc fmnu fmps fbi:Addr}(X:K.In h)(G:h.Ns mainGlobals mg)(hfa:mg "law"=some (.ref fa))
  {oS oP:Obj} {xB xL xF y1 y2 y3:Str} {xM:Int} {uB uL uF uM u1 u2 u3:Tok} {nS nP:Nat} {cfc:PySem.W.CFound} {cdT:ClassData}
  (aC:PySem.W.nsIn K mainGlobals "Reader"=some (some (.ref C)))
  (eP:PySem.W.nsIn K mainGlobals "PrintError"=some (some (.ref CP)))
  (eB:PySem.W.nsIn K mainGlobals "BadBits"=some (some (.ref CB)))
  (eT:PySem.W.nsIn K mainGlobals "BadText"=some (some (.ref CT)))
  (Hrd:FnG K "read" sRead frd)
  (Hce:FnG K "_law_cell" sCell fce)
  (Hmi:FnG K "_law_mix" sMix fmi)
  (Hwh:FnG K "_law_whole" yf0 fwh)
  (Htr:FnG K "_law_tree" sTree ftr)
  (Hwo:FnG K "_law_words" yh8 fwo)
  (Hir:FnG K "_law_inner" yi2 fir)
  (Hru:FnG K "_law_run" sLRun fru)
  (Hwr:FnG K "_law_wrong" yh7 fwr)
  (Htx:FnG K "_law_text" sText ftx)
  (Hla:FnG K "law" sLaw fla)
  (Hmini:FnM K C "__init__" "Reader.__init__" zy0 fmini)
  (Hma:FnM K C "is_at" "Reader.is_at" sRdAt fma)
  (Hmp:FnM K C "pass_blanks" "Reader.pass_blanks" zx6 fmp)
  (Hmn:FnM K C "is_next" "Reader.is_next" zx8 fmn)
  (Hmt:FnM K C "take" "Reader.take" zx4 fmt)
  (Hmr:FnM K C "take_run" "Reader.take_run" yi0 fmr)
  (Hme:FnM K C "enter" "Reader.enter" zr3 fme)
  (Hml:FnM K C "leave" "Reader.leave" zr2 fml)
  (Hmw:FnM K C "whole" "Reader.whole" zr0 fmw)
  (Hms:FnM K C "sum_tree" "Reader.sum_tree" yh9 fms)
  (Hmpr:FnM K C "product_tree" "Reader.product_tree" zx5 fmpr)
  (Hmo:FnM K C "operand" "Reader.operand" zx7 fmo)
  (Hmnc:FnM K C "name_or_call" "Reader.name_or_call" zx9 fmnc)
  (Hmnu:FnM K C "number" "Reader.number" yi1 fmnu)
  (Hmps:FnM K C "parts" "Reader.parts" zr1 fmps)
  (Hbi:FnM K CT "__init__" "BadText.__init__" zy1 fbi)
  (cl_C:ClsK K C)
  (ntext:PySem.W.findIn K (.ref C) "text"=some none)
  (nplace:PySem.W.findIn K (.ref C) "place"=some none)
  (ndepth:PySem.W.findIn K (.ref C) "depth"=some none)
  (zlen:PySem.W.nsIn K mainGlobals "len"=some none)
  (zint:PySem.W.nsIn K mainGlobals "int"=some none)
  (ztuple:PySem.W.nsIn K mainGlobals "tuple"=some none)
  (zstr:PySem.W.nsIn K mainGlobals "str"=some none)
  (zisinstance:PySem.W.nsIn K mainGlobals "isinstance"=some none)
  (zrange:PySem.W.nsIn K mainGlobals "range"=some none)
  (zbool:PySem.W.nsIn K mainGlobals "bool"=some none)
  (zValueError:PySem.W.nsIn K mainGlobals "ValueError"=some none)
  (gB:PySem.W.nsIn K mainGlobals "PASSED"=some (some (.str xB uB)))
  (gL:PySem.W.nsIn K mainGlobals "LETTERS"=some (some (.str xL uL)))
  (gF:PySem.W.nsIn K mainGlobals "FIGURES"=some (some (.str xF uF)))
  (gM:PySem.W.nsIn K mainGlobals "MOST_WITHIN"=some (some (.int xM uM)))
  (gS:PySem.W.nsIn K mainGlobals "SUM_SIGNS"=some (some (.ref aS)))
  (gP:PySem.W.nsIn K mainGlobals "PRODUCT_SIGNS"=some (some (.ref aP)))
  (lS:K.lookup aS=some oS)
  (lP:K.lookup aP=some oP)
  (dS1:oS.cls=.type "tuple")
  (dS2:oS.data=.seq #[.str y1 u1,.str y2 u2] nS)
  (dP1:oP.cls=.type "tuple")
  (dP2:oP.data=.seq #[.str y3 u3] nP)
  (q1:xB=tx blanksL)
  (q2:xL=tx zb0)
  (q3:xF=tx figuresL)
  (q4:xM=20)
  (q5:y1=tx [43])
  (q6:y2=tx [45])
  (q7:y3=tx [42])
  (xo:excFn K CT=true)
  (kT:PySem.W.keepIn K (.ref CT)=true)
  (rdP:PySem.W.readsIn K CP (.type "type")=true)
  (fc1:PySem.W.findCls K (.ref CP) (.type "type") "__init__"=some cfc)
  (fc2:cfc=.val (.builtin "ValueError.__init__"))
  (sg:PySem.W.specialIn K (.ref CP) "__getattribute__"=some (some (.builtin "type.__getattribute__")))
  (sa:PySem.W.findIn K (.ref CT) "__setattr__"=some (some (.builtin "object.__setattr__")))
  (x2:PySem.W.clsIn K CT=some cdT)
  (ov2:(zp3 cdT.mro&&cdT.hasDict)=true)
  (na:PySem.W.findIn K (.ref CT) "place"=some none)
  (xm:PySem.W.exmOne K (.ref CT) (.ref CP)=some true)
  (x0:PySem.W.findIn K (.ref CT) "__getattribute__"=some (some (.builtin "BaseException.__getattribute__")))
  (x1:PySem.W.findIn K (.ref CT) "__getattr__"=some none)
  (x7:PySem.W.mroIn K CT (.type "BaseException")=some true)
  (x3:PySem.W.findIn K (.ref CT) "__class__"=some (some (.builtin "object.__class__")))
  (x4:PySem.W.specialIn K (.builtin "object.__class__") "__get__"=some (some (.builtin "getset_descriptor.__get__")))
  (x5:PySem.W.takesIn K (.builtin "object.__class__")=some true)
  (x6:PySem.W.mroIn K CT (.type "object")=some true)
  (iV:PySem.W.kitOne K (.ref CT) (.type "ValueError")=some true)
  (iB:PySem.W.kitOne K (.ref CT) (.ref CB)=some false)
  (iI:PySem.W.kitOne K (.type "int") (.type "bool")=some false)
  (hdT:PySem.W.hasDictIn K CT=true):
  ∃fd:FuncData,(∀(s:Shared) (v:Value),BindsTo s fd ⟨[v],[]⟩ [("_law_script",v)])∧∀base:Heap,K.In base→base.Ns mainGlobals mg→FnOk l.prog w K mg base CX0 140 fa fd ["_law_script"] (spLaw K):=by
 subst q1 q2 q3 q4 q5 q6 q7 fc2
 have e:=hfa.symm.trans (PySem.W.mg_of X G Hla.a)
 cases e
 have g:∀ {x:Str} {v:Value},PySem.W.nsIn K mainGlobals x=some (some v)→mg x=some v:=fun e=>PySem.W.mg_of X G e
 have g0:∀ {x:Str},PySem.W.nsIn K mainGlobals x=some none→mg x=none:=fun e=>PySem.W.mg_none_of X G e
 have sS:SgAt K (.ref aS) [43,45]:=.inr ⟨aS,rfl,fun H=>.inr ⟨oS,_,nS,lS,dS1,dS2,by show 2≤sizeLine;decide,.cons ⟨_,rfl⟩ (.cons ⟨_,rfl⟩ .nil)⟩⟩
 have sP:SgAt K (.ref aP) [42]:=.inr ⟨aP,rfl,fun H=>.inr ⟨oP,_,nP,lP,dP1,dP2,by show 1≤sizeLine;decide,.cons ⟨_,rfl⟩ .nil⟩⟩
 have T:Rdr K mg C:=⟨⟨cl_C.g,cl_C.h,cl_C.o,cl_C.s⟩,ntext,nplace,ndepth,g0 zlen,g0 ztuple,⟨_,g gB,_,rfl⟩,⟨_,g gL,_,rfl⟩,⟨_,g gF,_,rfl⟩,⟨_,.ref aS,g gS,rfl,sS⟩,⟨_,.ref aP,g gP,rfl,sP⟩,⟨_,g gM,_,rfl⟩⟩
 obtain⟨ard,drd,Frd⟩:=Hrd
 have brd:=Frd.binds (ps:=["text"]) fun _ _ _ _ _ _ us hl=>match us,hl with|[_],_=>rfl
 obtain⟨ace,dce,Fce⟩:=Hce
 have bce:=Fce.binds (ps:=["_law_script","_law_k"]) fun _ _ _ _ _ _ us hl=>match us,hl with|[_,_],_=>rfl
 obtain⟨ami,dmi,Fmi⟩:=Hmi
 have bmi:=Fmi.binds (ps:=["_law_script","_law_k"]) fun _ _ _ _ _ _ us hl=>match us,hl with|[_,_],_=>rfl
 obtain⟨awh,dwh,Fwh⟩:=Hwh
 have bwh:=Fwh.binds (ps:=["_law_found"]) fun _ _ _ _ _ _ us hl=>match us,hl with|[_],_=>rfl
 obtain⟨atr,dtr,Ftr⟩:=Htr
 have btr:=Ftr.binds (ps:=zl7) fun _ _ _ _ _ _ us hl=>match us,hl with|[_,_,_,_],_=>rfl
 obtain⟨awo,dwo,Fwo⟩:=Hwo
 have bwo:=Fwo.binds (ps:=psW) fun _ _ _ _ _ _ us hl=>match us,hl with|[_],_=>rfl
 obtain⟨air,dir,Fir⟩:=Hir
 have bir:=Fir.binds (ps:=psI) fun _ _ _ _ _ _ us hl=>match us,hl with|[_,_],_=>rfl
 obtain⟨aru,dru,Fru⟩:=Hru
 have bru:=Fru.binds (ps:=yl7) fun _ _ _ _ _ _ us hl=>match us,hl with|[_,_,_],_=>rfl
 obtain⟨awr,dwr,Fwr⟩:=Hwr
 have bwr:=Fwr.binds (ps:=["_law_text_here"]) fun _ _ _ _ _ _ us hl=>match us,hl with|[_],_=>rfl
 obtain⟨atx,dtx,Ftx⟩:=Htx
 have btx:=Ftx.binds (ps:=["_law_script"]) fun _ _ _ _ _ _ us hl=>match us,hl with|[_],_=>rfl
 obtain⟨ala,dla,Fla⟩:=Hla
 obtain⟨amini,imini,dmini,Fmini⟩:=Hmini
 obtain⟨ama,ima,dma,Fma⟩:=Hma
 obtain⟨amp,imp,dmp,Fmp⟩:=Hmp
 obtain⟨amn,imn,dmn,Fmn⟩:=Hmn
 obtain⟨amt,imt,dmt,Fmt⟩:=Hmt
 obtain⟨amr,imr,dmr,Fmr⟩:=Hmr
 obtain⟨ame,ime,dme,Fme⟩:=Hme
 obtain⟨aml,iml,dml,Fml⟩:=Hml
 obtain⟨amw,imw,dmw,Fmw⟩:=Hmw
 obtain⟨ams,ims,dms,Fms⟩:=Hms
 obtain⟨ampr,impr,dmpr,Fmpr⟩:=Hmpr
 obtain⟨amo,imo,dmo,Fmo⟩:=Hmo
 obtain⟨amnc,imnc,dmnc,Fmnc⟩:=Hmnc
 obtain⟨amnu,imnu,dmnu,Fmnu⟩:=Hmnu
 obtain⟨amps,imps,dmps,Fmps⟩:=Hmps
 obtain⟨abi,ibi,dbi,Fbi⟩:=Hbi
 have bbi:=Fbi.binds (ps:=yf6) fun _ _ _ _ _ _ us hl=>match us,hl with|[_,_],_=>rfl
 have hbl:∀(s:Shared) (v:Value),BindsTo s dla ⟨[v],[]⟩ [("_law_script",v)]:=by
  obtain⟨oc,od,kV,doc,pm,an,cdv,ct,osl,rfl,lk,hcd⟩:=Fla.ex
  exact fun s v=>.of_eq rfl
 have Z:OwnX K CT fbi CP "place":=⟨xo,abi,ibi,kT,rdP,⟨_,fc1,rfl⟩,sg,sa,by rw[x2];exact ov2,na⟩
 have RT:ErrT K mg CP CB CT:=⟨g eP,g eB,g eT,g0 zValueError,g0 zisinstance,xm,⟨x0,x1,x7,by rw[x2];rfl,x3,x4,x5,x6⟩,iV,iB,na,hdT⟩
 refine⟨dla,hbl,fun base XB _=>?_⟩
 have Gce:=ok_cell (P:=l.prog) (w:=w) (base:=base) Fce (g0 zlen)
 have Gmi:=ok_mix (P:=l.prog) (w:=w) (base:=base) Fmi Gce bce Fce.kp (g ace)
 have Gtr:=yh6 (P:=l.prog) (w:=w) (base:=base) Ftr (g atr) btr (g0 zrange) (g0 ztuple) Gmi bmi Fmi.kp (g ami)
 have Gwo:=zs1 (P:=l.prog) (w:=w) (base:=base) Fwo Fir (g awo) (g air) bwo bir (g0 zrange) (g0 zlen) (g0 zint) (g0 zstr) 6
 have Gwh:FnOk l.prog w K mg base CX0 1 fwh _ ["_law_found"] spLW:=ok_lwhole Fwh (g0 zisinstance) (g0 zint) (g0 zbool) iI
 have Gru:FnOk l.prog w K mg base CX0 1 fru _ yl7 spRun:=ok_lrun Fru (g0 zlen)
 have Gwr:=ok_wrong Fwr (g0 zlen) Gru bru Fru.kp (g aru)
 have Gtx:=ok_text (P:=l.prog) (w:=w) (base:=base) Ftx ⟨g0 zrange,g0 zlen,g0 zint,Gmi,bmi,Fmi.kp,(g ami),fun d hd=>(Gtr (d+1)).mono (by omega),btr,Ftr.kp,g atr,Gwo.mono (by decide),bwo,Fwo.kp,g awo⟩
 have Gbi:FnOk l.prog w K mg base CX0 1 fbi _ yf6 (spBad CT):=ym3 Fbi Z (g eP)
 have RF:RdFs K C ⟨fmini,fma,fmp,fmn,fmt,fmr,fme,fml,fmw,fms,fmpr,fmo,fmnc,fmnu,fmps⟩ ⟨dmini,dma,dmp,dmn,dmt,dmr,dme,dml,dmw,dms,dmpr,dmo,dmnc,dmnu,dmps⟩:=⟨Fma,Fmp,Fmn,Fmt,Fmr,Fme,Fml,Fmw,Fms,Fmpr,Fmo,Fmnc,Fmnu,Fmps,⟨ama,ima,Fma.kp⟩,⟨amp,imp,Fmp.kp⟩,⟨amn,imn,Fmn.kp⟩,⟨amt,imt,Fmt.kp⟩,⟨amr,imr,Fmr.kp⟩,⟨ame,ime,Fme.kp⟩,⟨aml,iml,Fml.kp⟩,⟨amw,imw,Fmw.kp⟩,⟨ams,ims,Fms.kp⟩,⟨ampr,impr,Fmpr.kp⟩,⟨amo,imo,Fmo.kp⟩,⟨amnc,imnc,Fmnc.kp⟩,⟨amnu,imnu,Fmnu.kp⟩,⟨amps,imps,Fmps.kp⟩⟩
 have Grd:=rd_read (P:=l.prog) (w:=w) (base:=base) Frd Fmini RF T (kitX Z Gbi bbi (g eT) T) ⟨cl_C.m,amini,imini,cl_C.k⟩ (g aC)
 exact ok_law Fla RT Gtx btx Ftx.kp (g atx) Grd brd Frd.kp (g ard) Gwr bwr Fwr.kp (g awr) Gwh bwh Fwh.kp (g awh)
theorem walk{l:PySem.W.OpenLaw}{q:Program}{loose:List Str}{XP:(Str→Option Value)→Heap→Prop}{YP:World→Heap→Prop}{d:DefRec}{K:Params→PySem.W.Frag}(hn:l.most=some 63)(hdf:d.params.defaults=[])
  (hY:∀(w:World) (h:Heap),YP w h→(K w.params).In h)
  (F:∀(w:World) (mg:Str→Option Value) (fa:Addr) (h:Heap),(K w.params).In h→h.Ns mainGlobals mg→mg d.name=some (.ref fa)→
   ∃fd:FuncData,(∀(s:Shared) (u:Value),BindsTo s fd ⟨[u],[]⟩ [("_law_script",u)])∧∀base:Heap,(K w.params).In base→base.Ns mainGlobals mg→FnOk l.prog w (K w.params) mg base CX0 140 fa fd ["_law_script"] (spLaw (K w.params))):
  PySem.W.WalkO q loose XP YP l.row.toRowW d [] (fun f vs=>PySem.call f vs):=
 L2.walk_of (n:=63) (k:=140) (x:="_law_script") (CX:=fun _=>CX0) (sp:=fun w=>spLaw (K w.params)) hn (by decide) hdf ⟨rfl,by decide,by decide⟩ hY F (fun _ _ a ns hl _ hS=>⟨a,ns,rfl,hS,hl,fun _=>rfl⟩) fun _ _ _ _ _ z=>z
end Pq
open PySem PySem.W PyProof.Rows Pq L2
set_option maxRecDepth 100000 in
set_option maxHeartbeats 0 in
theorem PySem.Challenge.cw_printwell_k21_wrong_places_holds : PySem.Challenge.rw_printwell_k21_wrong_places.Holds := by
  w_on; o_law; k_head; (case hw => w_witness2)
  k_fill
  refine Pq.walk (l := PySem.Challenge.rw_printwell_k21_wrong_places) rfl rfl (fun w h Y => PySem.W.kIn_of Y) ?F
  case F =>
    intro w mg fa h KX G hmg
    refine' Pq.all_mk KX G hmg ?aC ?eP ?eB ?eT ?Hrd ?Hce ?Hmi ?Hwh ?Htr ?Hwo ?Hir ?Hru ?Hwr ?Htx ?Hla ?Hmini ?Hma ?Hmp ?Hmn ?Hmt ?Hmr ?Hme ?Hml ?Hmw ?Hms ?Hmpr ?Hmo ?Hmnc ?Hmnu ?Hmps ?Hbi ?cl_C ?ntext ?nplace ?ndepth ?zlen ?zint ?ztuple ?zstr ?zisinstance ?zrange ?zbool ?zValueError ?gB ?gL ?gF ?gM ?gS ?gP ?lS ?lP ?dS1 ?dS2 ?dP1 ?dP2 ?q1 ?q2 ?q3 ?q4 ?q5 ?q6 ?q7 ?xo ?kT ?rdP ?fc1 ?fc2 ?sg ?sa ?x2 ?ov2 ?na ?xm ?x0 ?x1 ?x7 ?x3 ?x4 ?x5 ?x6 ?iV ?iB ?iI ?hdT
    (case aC => k_is)
    (case eP => k_is)
    (case eB => k_is)
    (case eT => k_is)
    (case Hrd => apply zm3 <;> k_is)
    (case Hce => apply zm3 <;> k_is)
    (case Hmi => apply zm3 <;> k_is)
    (case Hwh => apply zm3 <;> k_is)
    (case Htr => apply zm3 <;> k_is)
    (case Hwo => apply zm3 <;> k_is)
    (case Hir => apply zm3 <;> k_is)
    (case Hru => apply zm3 <;> k_is)
    (case Hwr => apply zm3 <;> k_is)
    (case Htx => apply zm3 <;> k_is)
    (case Hla => apply zm3 <;> k_is)
    (case Hmini => apply zi1 <;> k_is)
    (case Hma => apply zi1 <;> k_is)
    (case Hmp => apply zi1 <;> k_is)
    (case Hmn => apply zi1 <;> k_is)
    (case Hmt => apply zi1 <;> k_is)
    (case Hmr => apply zi1 <;> k_is)
    (case Hme => apply zi1 <;> k_is)
    (case Hml => apply zi1 <;> k_is)
    (case Hmw => apply zi1 <;> k_is)
    (case Hms => apply zi1 <;> k_is)
    (case Hmpr => apply zi1 <;> k_is)
    (case Hmo => apply zi1 <;> k_is)
    (case Hmnc => apply zi1 <;> k_is)
    (case Hmnu => apply zi1 <;> k_is)
    (case Hmps => apply zi1 <;> k_is)
    (case Hbi => apply zi1 <;> k_is)
    (case cl_C => refine ⟨?_, ?_, ?_, ?_, ?_, ?_⟩ <;> k_is)
    (case ntext => k_is)
    (case nplace => k_is)
    (case ndepth => k_is)
    (case zlen => k_is)
    (case zint => k_is)
    (case ztuple => k_is)
    (case zstr => k_is)
    (case zisinstance => k_is)
    (case zrange => k_is)
    (case zbool => k_is)
    (case zValueError => k_is)
    (case gB => k_is)
    (case gL => k_is)
    (case gF => k_is)
    (case gM => k_is)
    (case gS => k_is)
    (case gP => k_is)
    (case lS => k_is)
    (case lP => k_is)
    (case dS1 => exact rfl)
    (case dS2 => exact rfl)
    (case dP1 => exact rfl)
    (case dP2 => exact rfl)
    (case q1 => kernel_rfl)
    (case q2 => kernel_rfl)
    (case q3 => kernel_rfl)
    (case q4 => rfl)
    (case q5 => kernel_rfl)
    (case q6 => kernel_rfl)
    (case q7 => kernel_rfl)
    (case xo => kernel_rfl)
    (case kT => k_is)
    (case rdP => k_is)
    (case fc1 => k_is)
    (case fc2 => exact rfl)
    (case sg => k_is)
    (case sa => k_is)
    (case x2 => k_is)
    (case ov2 => kernel_rfl)
    (case na => k_is)
    (case xm => kts_exm)
    (case x0 => k_is)
    (case x1 => k_is)
    (case x7 => k_is)
    (case x3 => k_is)
    (case x4 => k_is)
    (case x5 => k_is)
    (case x6 => k_is)
    (case iV => kit_is)
    (case iB => kit_is)
    (case iI => kit_is)
    (case hdT => k_is)

