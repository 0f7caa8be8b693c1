import PyProof.Rows.All
import Wide.All
import OpenK.AllK
import Wide.FinOn
import Lean
import PyProof.EqAt
import PyProof.EqKinds
import PyProof.TupleCall
import PySem.Challenge.RW_sayswho_k51_whole_greatest_by_ways
set_option Elab.async false
set_option linter.all false
set_option maxRecDepth 100000
namespace L2
open PySem PySem.Spec PyProof.Rows
abbrev Key:=Sum Int Str
def yO:Key->Value->Bool
 | .inl k,v=>Value.isInt k v
 | .inr x,v=>Value.isStrOf x v
def keyH (w:World):Key->Int
 | .inl k=>hashInt k
 | .inr x=>hashStr w x
theorem qX:∀ {k:Key} {v:Value},yO k v=true->(∃ i t,k=Sum.inl i/\v=Value.int i t)\/(∃ x t,k=Sum.inr x/\v=Value.str x t)
 | .inl i,v,h=>by
  obtain ⟨t,e⟩:=Value.isInt_shape (k:=i) (v:=v) h
  exact .inl ⟨i,t,rfl,e⟩
 | .inr x,v,h=>by
  obtain ⟨t,e⟩:=Value.isStrOf_shape (x:=x) (v:=v) h
  exact .inr ⟨x,t,rfl,e⟩
theorem p1Z (i:Int) (t:Tok):yO (.inl i) (.int i t)=true:=by simp [yO,Value.isInt]
theorem q1Z (x:Str) (t:Tok):yO (.inr x) (.str x t)=true:=by simp [yO,Value.isStrOf]
theorem h0X (a b:Int):decide ((Sum.inl a:Key)=Sum.inl b)=(a == b):=by
 by_cases e:a=b
 ·subst e; simp
 ·have h:¬ (Sum.inl a:Key)=Sum.inl b:=fun q=>e (Sum.inl.inj q)
  rw [decide_eq_false h]
  exact (beq_eq_false_iff_ne.mpr e).symm
theorem i0X (a b:Str):decide ((Sum.inr a:Key)=Sum.inr b)=decide (a=b):=by
 by_cases e:a=b
 ·subst e; simp
 ·have h:¬ (Sum.inr a:Key)=Sum.inr b:=fun q=>e (Sum.inr.inj q)
  rw [decide_eq_false h,decide_eq_false e]
theorem j0X (a:Int) (b:Str):decide ((Sum.inl a:Key)=Sum.inr b)=false:=decide_eq_false (fun q=>nomatch q)
theorem k0X (a:Str) (b:Int):decide ((Sum.inr a:Key)=Sum.inl b)=false:=decide_eq_false (fun q=>nomatch q)
def fZ (prog:Program) (w:World):PySem.KeyKind prog w Key where
 is:=yO
 hash:=keyH w
 inj:=fun v a b ha hb=>by
  rcases qX ha with ⟨i,t,rfl,rfl⟩ | ⟨x,t,rfl,rfl⟩
  ·rcases qX hb with ⟨j,u,rfl,e⟩ | ⟨y,u,rfl,e⟩
   ·injection e with e1 _; rw [e1]
   ·exact nomatch e
  ·rcases qX hb with ⟨j,u,rfl,e⟩ | ⟨y,u,rfl,e⟩
   ·exact nomatch e
   ·injection e with e1 _; rw [e1]
 byValue:=fun k v h=>by
  rcases qX h with ⟨i,t,rfl,rfl⟩ | ⟨x,t,rfl,rfl⟩ <;> rfl
 pyHash:=fun hv h=>by
  rcases qX hv with ⟨i,t,rfl,rfl⟩ | ⟨x,t,rfl,rfl⟩
  ·exact wpAny_pyHash_int h
  ·exact wpAny_pyHash_str h
 eqBool:=fun hu hv h=>by
  rcases qX hu with ⟨i,t,rfl,rfl⟩ | ⟨x,t,rfl,rfl⟩
  ·rcases qX hv with ⟨j,u,rfl,rfl⟩ | ⟨y,u,rfl,rfl⟩
   ·rw [h0X] at h; exact wpAny_eqBool_int h
   ·rw [j0X] at h; exact SeqAt.EqAt.int_str i t y u _ _ _ _ h
  ·rcases qX hv with ⟨j,u,rfl,rfl⟩ | ⟨y,u,rfl,rfl⟩
   ·rw [k0X] at h; exact SeqAt.EqAt.str_int x t j u _ _ _ _ h
   ·rw [i0X] at h; exact wpAny_eqBool_str h
 «strs»:=fun k x t v h=>by
  rcases qX h with ⟨i,u,rfl,e⟩ | ⟨y,u,rfl,e⟩
  ·exact nomatch e
  ·injection e with e1 _
   subst e1
   cases v <;> rfl
theorem a7Q (prog:Program) (w:World) (i:Int) (t:Tok):(fZ prog w).is (.inl i) (.int i t)=true:=p1Z i t
theorem b7Q (prog:Program) (w:World) (x:Str) (t:Tok):(fZ prog w).is (.inr x) (.str x t)=true:=q1Z x t
end L2
namespace L2
open PySem PySem.Spec PyProof.Rows
inductive V where
 | non | bl (b:Bool) | int (i:Int) | str (x:Str) | byt (b:Array UInt8) | flt (b:UInt64) | ref (a:Addr) | ty (n:String)
 deriving DecidableEq
def qZ:V->Value->Prop
 | .non,u=>u=Value.none
 | .bl b,u=>u=Value.bool b
 | .int i,u=>∃ t,u=Value.int i t
 | .str x,u=>∃ t,u=Value.str x t
 | .byt b,u=>∃ t,u=Value.bytes b t
 | .flt b,u=>∃ t,u=Value.float b t
 | .ref a,u=>u=Value.ref a
 | .ty n,u=>u=Value.type n
abbrev rZ:List V->List Value->Prop:=Paired qZ
theorem rZ.length {xs:List V} {us:List Value} (r:rZ xs us):xs.length=us.length:=Paired.length r
theorem rZ.get:∀ {xs:List V} {us:List Value} {i:Nat} {x:V},rZ xs us->xs[i]?=some x->∃ u,us[i]?=some u/\qZ x u
 | _,_,_,_,.nil,e=>by simp at e
 | _,_,0,_,.cons r _,e=>by simp at e; subst e; exact ⟨_,rfl,r⟩
 | _,_,i + 1,x,.cons _ t,e=>by
  obtain ⟨u,h1,h2⟩:=rZ.get (i:=i) (x:=x) t (by simpa using e)
  exact ⟨u,by simpa using h1,h2⟩
theorem rZ.append:∀ {xs ys:List V} {us ws:List Value},rZ xs us->rZ ys ws->rZ (xs++ys) (us++ws)
 | _,_,_,_,.nil,s=>s
 | _,_,_,_,.cons r t,s=>.cons r (rZ.append t s)
theorem rZ.take:∀ {xs:List V} {us:List Value} (n:Nat),rZ xs us->rZ (xs.take n) (us.take n)
 | _,_,0,_=>.nil
 | _,_,_ + 1,.nil=>.nil
 | _,_,n + 1,.cons r t=>.cons r (rZ.take n t)
theorem rZ.drop:∀ {xs:List V} {us:List Value} (n:Nat),rZ xs us->rZ (xs.drop n) (us.drop n)
 | _,_,0,r=>r
 | _,_,_ + 1,.nil=>.nil
 | _,_,n + 1,.cons _ t=>rZ.drop n t
def sY:Option V->Option Value->Prop
 | some v,some u=>qZ v u
 | none,none=>True
 | _,_=>False
def KV {κ:Type}:List (κ × V)->List (κ × Value)->Prop:=Paired fun (p:κ × V) (q:κ × Value)=>p.1=q.1/\qZ p.2 q.2
def kV:Key->V
 | .inl i=>.int i
 | .inr x=>.str x
inductive HO where
  | lst (xs:List V)
  | tup (xs:List V)
  | dK (kvs:List (Key × V)) | dT (kvs:List (List Key × V))
  | set (S:Int->Bool) (n:Nat)
  | ins (C dx:Addr) (fs:List (Str × V))
  | own (x:Addr)
  | xd (fs:List (Str × V))
  | met (f x:Addr)
  | rng (lo hi:Int)
  | frz (o:Obj) (u:HO)
  | tbl (ps:Array Value)
  | ext (φ:Heap->Prop)
abbrev Hp:=Addr->Option HO
def upd (H:Hp) (a:Addr) (o:HO):Hp:=fun b=>if b=a then some o else H b
theorem dQ {H:Hp} {a:Addr} {o:HO}:upd H a o a=some o:=by unfold upd; rw [if_pos rfl]
theorem kQ {H:Hp} {a b:Addr} {o:HO} (h:b≠a):upd H a o b=H b:=by unfold upd; rw [if_neg h]
theorem k7Z {H:Hp} {a:Addr} {o u:HO}:upd (upd H a o) a u=upd H a u:=by
 funext b; unfold upd; split <;> rfl
theorem zO {H:Hp} {a b:Addr} {o u:HO} (h:H a=some o) (h':H b=some u) (d:o≠u):a≠b:=by
 intro e; subst e; rw [h] at h'; exact d (Option.some.inj h')
theorem jQ {H:Hp} {a b:Addr} {o:HO} (h:H a=some o) (h':H b=none):a≠b:=by
 intro e; subst e; rw [h] at h'; cases h'
section
variable (P:Program) (w:World)
def tZ (H:Hp) (h:Heap) (a:Addr):HO->Prop
 | .lst xs=>xs.length<=sizeLine/\∃ (its:List Value) (n:Nat),rZ xs its/\h.get? a=some { cls:=.type "list",data:=.seq its.toArray n }
 | .tup xs=>xs.length<=sizeLine/\∃ its:List Value,rZ xs its/\IsTup h a its.toArray
 | .dK kvs=>kvs.length<=sizeLine/\(a == sysModules)=false/\∃ vs,KV kvs vs/\h.DictOf (fZ P w) a vs
 | .dT kvs=>kvs.length<=sizeLine/\(a == sysModules)=false/\∃ xs:List (List Key × Addr × Value),
   Paired (fun (p:List Key × V) (q:List Key × Addr × Value)=>p.1=q.1/\H q.2.1=some (.tup (p.1.map kV))/\qZ p.2 q.2.2) kvs xs /\
   ∃ o es ep,h.get? a=some o/\o.ExactDict/\o.data = .dict es ep/\es.toList=xs.map (entryOfKey (tupleKind (fZ P w)))/\(xs.map (·.1)).Nodup
 | .set S n=>h.SetOf (intKind P w) a S n
 | .ins C dx fs=>H dx=some (.own a)/\fs.length<=1000/\dx≠a/\h.get? a=some (W.instObj C dx) /\
   ∃ mA,h.Ns1 dx mA/\(∀ f,sY (fs.lookup f) (mA f))/\PySem.Within mA (fs.map (·.1))
 | .own _=>∃ o,h.get? a=some o
 | .xd fs=>∃ mA,h.Ns1 a mA/\∀ f,sY (fs.lookup f) (mA f)
 | .rng lo hi=>∃ t u v,h.get? a=some { cls:=.type "range",data:=.fields #[.int lo t,.int hi u,.int 1 v] }
 | .frz o u=>h.get? a=some o/\tZ H h a u
 | .tbl ps=>h.get? a=some { cls:=.none,data:=.fields ps }
 | .met f x=>h.get? a=some (W.methodObj (.ref f) (.ref x))
 | .ext φ=>φ h/\(∃ o,h.get? a=some o)/\∀ h1 h2:Heap,φ h1->(∀ o,h1.get? a=some o->h2.get? a=some o)->φ h2
def HOk (H:Hp) (h:Heap):Prop:=∀ a o,H a=some o->tZ P w H h a o
end
section
variable {P:Program} {w:World} {H H':Hp} {h h':Heap} {a:Addr} {o:HO}
theorem tZ.lt (x:tZ P w H h a o):a < h.objs.size:=by
 cases o with
 | lst xs=>obtain ⟨_,_,_,_,e⟩:=x; exact Heap.lt_size e
 | tup xs=>obtain ⟨_,_,_,p⟩:=x; exact p.lt
 | dK kvs=>obtain ⟨_,_,_,_,o,_,_,e,_⟩:=x; exact Heap.lt_size e
 | dT kvs=>obtain ⟨_,_,_,_,o,_,_,e,_⟩:=x; exact Heap.lt_size e
 | set S n=>obtain ⟨o,_,_,_,e,_⟩:=x; exact Heap.lt_size e
 | ins C dx fs=>obtain ⟨_,_,_,e,_⟩:=x; exact Heap.lt_size e
 | own y=>obtain ⟨_,e⟩:=x; exact Heap.lt_size e
 | xd fs=>obtain ⟨_,⟨_,_,_,e,_⟩,_⟩:=x; exact Heap.lt_size e
 | rng lo hi=>obtain ⟨_,_,_,e⟩:=x; exact Heap.lt_size e
 | frz ob u=>obtain ⟨e,_⟩:=x; exact Heap.lt_size e
 | tbl ps=>exact Heap.lt_size (show h.get? a=some _ from x)
 | met f y=>exact Heap.lt_size (show h.get? a=some _ from x)
 | ext φ=>obtain ⟨_,⟨_,e⟩,_⟩:=x; exact Heap.lt_size e
theorem Paired.mapP {α β:Type} {F G:α->β->Prop}:∀ {l₁:List α} {l₂:List β},Paired F l₁ l₂->(∀ a b,F a b->G a b)->Paired G l₁ l₂
 | _,_,.nil,_=>.nil
 | _,_,.cons r t,f=>.cons (f _ _ r) (Paired.mapP t f)
theorem tZ.stay (x:tZ P w H h a o) (k:∀ b u,(b=a\/H b=some (.own a))->h.get? b=some u->h'.get? b=some u)
  (ho:∀ b,H b=some (.own a)->H' b=some (.own a)) (ht:∀ b xs,H b=some (.tup xs)->H' b=some (.tup xs)):tZ P w H' h' a o:=by
 induction o with
 | lst xs=>obtain ⟨z,its,n,r,e⟩:=x; exact ⟨z,its,n,r,k _ _ (.inl rfl) e⟩
 | tup xs=>obtain ⟨z,its,r,ob,e,c⟩:=x; exact ⟨z,its,r,ob,k _ _ (.inl rfl) e,c⟩
 | dK kvs=>obtain ⟨z,y,vs,r,ob,es,ep,e,c⟩:=x; exact ⟨z,y,vs,r,ob,es,ep,k _ _ (.inl rfl) e,c⟩
 | dT kvs =>
  obtain ⟨z,y,xs,r,ob,es,ep,e,c⟩:=x
  exact ⟨z,y,xs,Paired.mapP r fun p q z=>⟨z.1,ht _ _ z.2.1,z.2.2⟩,ob,es,ep,k _ _ (.inl rfl) e,c⟩
 | set S n=>obtain ⟨ob,es,ep,t,e,c⟩:=x; exact ⟨ob,es,ep,t,k _ _ (.inl rfl) e,c⟩
 | ins C dx fs =>
  obtain ⟨d,z,ne,e,mA,⟨od,es,ep,e2,c⟩,r⟩:=x
  exact ⟨ho _ d,z,ne,k _ _ (.inl rfl) e,mA,⟨od,es,ep,k _ _ (.inr d) e2,c⟩,r⟩
 | own y=>obtain ⟨ob,e⟩:=x; exact ⟨ob,k _ _ (.inl rfl) e⟩
 | xd fs=>obtain ⟨mA,⟨od,es,ep,e,c⟩,r⟩:=x; exact ⟨mA,⟨od,es,ep,k _ _ (.inl rfl) e,c⟩,r⟩
 | rng lo hi=>obtain ⟨t,u,v,e⟩:=x; exact ⟨t,u,v,k _ _ (.inl rfl) e⟩
 | frz ob u ih=>obtain ⟨e,q⟩:=x; exact ⟨k _ _ (.inl rfl) e,ih q⟩
 | tbl ps =>
  have e:h.get? a=some { cls:=.none,data:=.fields ps }:=x
  show h'.get? a=some { cls:=.none,data:=.fields ps }
  exact k a _ (.inl rfl) e
 | met f y =>
  have e:h.get? a=some (W.methodObj (.ref f) (.ref y)):=x
  show h'.get? a=some (W.methodObj (.ref f) (.ref y))
  exact k a _ (.inl rfl) e
 | ext φ=>obtain ⟨p,⟨o,e⟩,st⟩:=x; exact ⟨st _ _ p fun o q=>k _ _ (.inl rfl) q,⟨o,k _ _ (.inl rfl) e⟩,st⟩
theorem HOk.lt (x:HOk P w H h) (e:H a=some o):a < h.objs.size:=(x a o e).lt
theorem HOk.fresh (x:HOk P w H h) (e:h.objs.size<=a):H a=none:=by
 cases q:H a with
 | none=>rfl
 | some u=>exact absurd (Nat.lt_of_lt_of_le (x.lt q) e) (Nat.lt_irrefl _)
theorem HOk.kept (x:HOk P w H h) (k:∀ b u,h.get? b=some u->h'.get? b=some u):HOk P w H h':=fun a o e =>
 (x a o e).stay (fun b u _ q=>k b u q) (fun _ q=>q) fun _ _ q=>q
theorem HOk.laid (x:HOk P w H h) (k:∀ b u,h.get? b=some u->h'.get? b=some u) (hp:h.objs.size<=a) (new:tZ P w (upd H a o) h' a o):HOk P w (upd H a o) h':=fun b u e=>by
 have hn:=x.fresh hp
 by_cases hb:b=a
 ·subst hb; rw [dQ] at e; cases e; exact new
 ·rw [kQ hb] at e
  exact (x b u e).stay (fun c v _ q=>k c v q) (fun c q=>by rw [kQ (jQ q hn)]; exact q) fun c xs q=>by rw [kQ (jQ q hn)]; exact q
end
def Rd (H:Hp) (a:Addr) (u:HO):Prop:=H a=some u\/∃ o,H a=some (.frz o u)
theorem Rd.ok {P:Program} {w:World} {H:Hp} {h:Heap} {a:Addr} {u:HO} (r:Rd H a u) (x:HOk P w H h):tZ P w H h a u:=by
 rcases r with r | ⟨o,r⟩
 ·exact x a u r
 ·obtain ⟨_,q⟩:=x a _ r
  exact q
def Mut:Option HO->Prop
 | some (.lst _)=>True
 | some (.dK _)=>True
 | some (.dT _)=>True
 | some (.set _ _)=>True
 | some (.ins _ _ _)=>True
 | some (.ext _)=>True
 | _=>False
section
variable {P:Program} {w:World} {H:Hp} {h h':Heap} {x e:Addr} {o':HO}
theorem HOk.write (ok:HOk P w H h) (mu:Mut (H x)) (he:e=x\/H e=some (.own x)) (k:∀ b u,b≠e->h.get? b=some u->h'.get? b=some u) (heo:∃ u,h'.get? e=some u)
  (new:tZ P w (upd H x o') h' x o'):HOk P w (upd H x o') h':=fun b u q=>by
 have nown:∀ c y,H c=some (.own y)->c≠x:=fun c y r z=>by subst z; rw [r] at mu; exact mu
 have ntup:∀ c xs,H c=some (.tup xs)->c≠x:=fun c xs r z=>by subst z; rw [r] at mu; exact mu
 by_cases hb:b=x
 ·subst hb; rw [dQ] at q; cases q; exact new
 ·rw [kQ hb] at q
  by_cases hbe:b=e
  ·have q':H b=some (.own x):=by
    rcases he with z | z
    ·exact absurd (hbe.trans z) hb
    ·rw [hbe]; exact z
   rw [q] at q'; cases q'
   obtain ⟨v,hv⟩:=heo
   exact ⟨v,by rw [hbe]; exact hv⟩
  ·refine (ok b u q).stay (fun c v hc r=>k c v ?_ r) (fun c r=>by rw [kQ (nown c b r)]; exact r) fun c xs r=>by rw [kQ (ntup c xs r)]; exact r
   rcases hc with rfl | hc
   ·exact hbe
   ·rintro rfl
    rcases he with z | z
    ·exact nown c b hc z
    ·rw [hc] at z; cases z; exact hb rfl
end
structure Un (fs ex:List Addr) (H H':Hp) (h h':Heap):Prop where
 keep:∀ b o,h.get? b=some o->H b=none->b∉fs->b∉ex->h'.get? b=some o
 slot:∀ b o,h.get? b=some o->H b=none->b∈fs->b∉ex->∃ sl,h'.get? b=some { o with slots:=sl }
 free:∀ b o,h.get? b=some o->H b=none->b∉ex->H' b=none
 there:∀ b o,h.get? b=some o->b∉ex->∃ o',h'.get? b=some o'
 tups:∀ b xs,H b=some (.tup xs)->H' b=some (.tup xs)
 frzs:∀ b o u,H b=some (.frz o u)->H' b=some (.frz o u)
 tbls:∀ b ps,H b=some (.tbl ps)->∃ more,H' b=some (.tbl (ps++more))
section
variable {fs fs' ex ex':List Addr} {H H1 H2:Hp} {h h1 h2 h':Heap} {a x e:Addr} {o:HO}
theorem Un.any (u:Un fs ex H H1 h h1) {b:Addr} {ob:Obj} (q:h.get? b=some ob) (n:H b=none) (hx:b∉ex):∃ sl,h1.get? b=some { ob with slots:=sl }:=by
 by_cases hb:b∈fs
 ·exact u.slot b ob q n hb hx
 ·exact ⟨ob.slots,u.keep b ob q n hb hx⟩
theorem Un.kept (k:∀ b u,h.get? b=some u->h'.get? b=some u):Un fs ex H H h h':=
 ⟨fun b ob q _ _ _=>k b ob q,fun b ob q _ _ _=>⟨ob.slots,k b ob q⟩,fun _ _ _ n _=>n,fun b ob q _=>⟨ob,k b ob q⟩,fun _ _ q=>q,fun _ _ _ q=>q,fun _ ps q=>⟨#[],by rw [q]; simp⟩⟩
theorem Un.refl:Un fs ex H H h h:=Un.kept fun _ _ q=>q
theorem Un.laid (k:∀ b u,h.get? b=some u->h'.get? b=some u) (hp:h.objs.size<=a) (hn:H a=none):Un fs ex H (upd H a o) h h' where
 keep:=fun b u q _ _ _=>k b u q
 slot:=fun b u q _ _ _=>⟨u.slots,k b u q⟩
 free:=fun b u q n _=>by rw [kQ (Nat.ne_of_lt (Nat.lt_of_lt_of_le (Heap.lt_size q) hp))]; exact n
 there:=fun b u q _=>⟨u,k b u q⟩
 tups:=fun b xs q=>by rw [kQ (jQ q hn)]; exact q
 frzs:=fun b u xs q=>by rw [kQ (jQ q hn)]; exact q
 tbls:=fun b ps q=>⟨#[],by rw [kQ (jQ q hn),q]; simp⟩
theorem Un.write (mu:Mut (H x)) (he:e=x\/H e=some (.own x)) (k:∀ b u,b≠e->h.get? b=some u->h'.get? b=some u) (heo:∃ u,h'.get? e=some u):Un fs ex H (upd H x o) h h':=by
 have hx:∀ b,H b=none->b≠x:=fun b n z=>by subst z; rw [n] at mu; exact mu
 have hb:∀ b,H b=none->b≠e:=fun b n z=>by
  subst z
  rcases he with r | r
  ·exact hx b n r
  ·rw [n] at r; cases r
 have hm:∀ b u,H b=some u->¬ Mut (some u)->b≠x:=fun b u q nm z=>by subst z; rw [q] at mu; exact nm mu
 refine ⟨fun b u q n _ _=>k b u (hb b n) q,fun b u q n _ _=>⟨u.slots,k b u (hb b n) q⟩,fun b u q n _=>by rw [kQ (hx b n)]; exact n,fun b u q _=>?_,
  fun b xs q=>by rw [kQ (hm b _ q fun z=>z)]; exact q,fun b u xs q=>by rw [kQ (hm b _ q fun z=>z)]; exact q,fun b ps q=>⟨#[],by rw [kQ (hm b _ q fun z=>z),q]; simp⟩⟩
 by_cases hbe:b=e
 ·subst hbe; exact heo
 ·exact ⟨u,k b u hbe q⟩
end
def trk (h:Heap) (H:Hp):List Addr:=(List.range h.objs.size).filter fun a=>(H a).isSome
def hidT (h:Heap) (H:Hp):Heap:=W.hideAll h (trk h H)
theorem r1Z (h:Heap) (H:Hp):(hidT h H).objs.size=h.objs.size:=W.hideAll_size _ _
theorem v3Z {h:Heap} {H:Hp} {b:Addr} {o:Obj} (e:h.get? b=some o) (n:H b=none):(hidT h H).get? b=some o:=
 W.hideAll_get _ e fun hm=>by
  have q:(H b).isSome=true:=(List.mem_filter.mp hm).2
  rw [n] at q; simp at q
theorem l7Z {h:Heap} {H:Hp} {b:Addr} {o:Obj} (e:(hidT h H).get? b=some o):h.get? b=some o/\H b=none:=by
 have e':h.get? b=some o:=W.of_hideAll (trk h H) e
 refine ⟨e',?_⟩
 cases q:H b with
 | none=>rfl
 | some x =>
  have hm:b∈trk h H:=List.mem_filter.mpr ⟨List.mem_range.mpr (Heap.lt_size e'),by simp [q]⟩
  have z:(hidT h H).get? b=none:=W.hideAll_none (trk h H) hm
  rw [z] at e; cases e
def m7Z (g h:Heap) (L:Addr):List (Addr × Obj):=(List.range h.objs.size).filterMap fun a=>if a=L\/(g.get? a).isSome=true then none else (h.get? a).map fun o=>(a,o)
def rest (g h:Heap) (L d:Addr):List (Addr × Obj):=(m7Z g h L).filter fun p=>decide (p.1≠d)
end L2
namespace L2
open PySem PySem.Spec PyProof.Rows
structure Mod (K:W.Frag) (mg:Str->Option Value) (base:Heap):Prop where
 kin:K.In base
 glob:base.Ns mainGlobals mg
 blt:∃ mb,base.Ns builtinsNs mb/\∀ x:Str,x ≠ "__name__"->mb x=bootBuiltins x
 nolimit:base.NoLimit
structure Cx where
 prog:Program
 w:World
 K:W.Frag
 mg:Str->Option Value
 base:Heap
 A:Around
 N:List Str
 s₀:Shared
 H₀:Hp
 env:Env
 outer:List Env
 stack:List Env
 ex:List Addr
 fn:Str->Bool
 calm:Bool
 pn:List (Addr × Obj)
 xe:Value->Shared->Prop
def frs (l:List Env):List Addr:=l.filterMap (·.frame)
abbrev Cx.fs (X:Cx):List Addr:=frs X.outer
def Vis (sc:Scope) (x:Str):Prop:=sc.names.lookup x=some .local\/sc.names.lookup x=some .cell\/sc.names.lookup x=some .free
def Loc (sc:Scope) (x:Str):Prop:=sc.names.lookup x=some .local\/sc.names.lookup x=some .cell
def Look (env:Env) (h:Heap) (m:Str->Option Value) (x:Str) (u:Value):Prop:=
 (env.kindOf x=some .local/\m x=some u)\/((env.kindOf x=some .cell\/env.kindOf x=some .free)/\∃ c,env.cells.lookup x=some c/\h.IsCell c (some u))
structure Cx.Ok (X:Cx):Prop where
 mod:Mod X.K X.mg X.base
 kind:X.env.scope.kind = .function
 glob:X.env.globals=mainGlobals
 blt:X.env.builtins=builtinsNs
 above:X.s₀.heap.objs.size<=X.env.locals
 inj:∀ x y c,X.env.cells.lookup x=some c->X.env.cells.lookup y=some c->x=y
 has:∀ x,(X.env.kindOf x=some .cell\/X.env.kindOf x=some .free)->∃ c,X.env.cells.lookup x=some c
 cab:∀ x c,X.fn x=true->X.env.cells.lookup x=some c->X.s₀.heap.objs.size<=c
 hd:X.calm=true->X.A.handled=none
 frames:X.A.frames=some X.stack
 stk:X.stack=X.outer\/(X.stack=X.env :: X.outer/\X.env.frame=some X.env.locals)
 exf:∀ b∈X.ex,b≠X.env.locals/\∀ x c,X.env.cells.lookup x=some c->c≠b
 bs:∀ b o,X.base.get? b=some o->X.s₀.heap.get? b=some o/\X.H₀ b=none
 bsz:X.base.objs.size<=X.s₀.heap.objs.size
 noex:∀ b o,X.base.get? b=some o->b∉X.ex
 exfs:∀ b∈X.ex,b∉X.fs
 funs:X.s₀.heap.FunFrames X.base X.outer
 frf:∀ b∈X.fs,X.H₀ b=none
structure Inv (X:Cx) (pins:List (Addr × Obj)) (σ:List (Option V)) (H:Hp) (s:Shared):Prop where
 ok:X.Ok
 os:s.os=X.s₀.os
 bare:AllBare s.gens
 base:Un X.fs X.ex X.H₀ H X.s₀.heap s.heap
 loc:∃ m,s.heap.Ns X.env.locals m/\∀ (i:Nat) (x:Str) (v:V),X.N[i]?=some x->σ[i]?=some (some v)->Vis X.env.scope x->∃ u,qZ v u/\Look X.env s.heap m x u
 cell:∀ x c,X.env.cells.lookup x=some c->∃ v,s.heap.IsCell c v
 free:H X.env.locals=none
 freeC:∀ x c,X.env.cells.lookup x=some c->H c=none
 pin:∀ p∈X.pn++pins,s.heap.get? p.1=some p.2/\H p.1=none/\p.1≠X.env.locals/\p.1∉X.fs/\∀ v,p.2.data ≠ .cell v
 hok:HOk X.prog X.w H s.heap
 len:σ.length=X.N.length
section
variable {X:Cx} {pins:List (Addr × Obj)} {σ:List (Option V)} {H H':Hp} {s:Shared} {h':Heap}
theorem Cx.Ok.nofr (ok:X.Ok) {b:Addr} {o:Obj} (e:X.base.get? b=some o):b∉X.fs:=fun hb=>by
 have:=(ok.funs.mem hb).1
 rw [e] at this; cases this
theorem Inv.bs (I:Inv X pins σ H s):∀ b o,X.base.get? b=some o->s.heap.get? b=some o/\H b=none:=fun b o e =>
 ⟨I.base.keep b o (I.ok.bs b o e).1 (I.ok.bs b o e).2 (I.ok.nofr e) (I.ok.noex b o e),I.base.free b o (I.ok.bs b o e).1 (I.ok.bs b o e).2 (I.ok.noex b o e)⟩
theorem Inv.bk (I:Inv X pins σ H s):∀ b o,X.base.get? b=some o->s.heap.get? b=some o:=fun b o e=>(I.bs b o e).1
theorem Inv.mod (I:Inv X pins σ H s):Mod X.K X.mg X.base:=I.ok.mod
theorem Inv.kIn (I:Inv X pins σ H s):X.K.In s.heap:=I.ok.mod.kin.keeps I.bk
theorem Inv.lt (I:Inv X pins σ H s):X.env.locals < s.heap.objs.size:=let ⟨_,hn,_⟩:=I.loc; hn.lt
theorem Inv.sz (I:Inv X pins σ H s):X.s₀.heap.objs.size<=s.heap.objs.size:=Nat.le_trans I.ok.above (Nat.le_of_lt I.lt)
theorem Inv.nofs (I:Inv X pins σ H s) {a:Addr} (h:s.heap.objs.size<=a):a∉X.fs:=fun hb=>by
 obtain ⟨_,o,ho,_⟩:=I.ok.funs.mem hb
 exact absurd (Nat.lt_of_lt_of_le (Heap.lt_size ho) (Nat.le_trans I.sz h)) (Nat.lt_irrefl _)
theorem Inv.cne (I:Inv X pins σ H s):∀ x c,X.env.cells.lookup x=some c->c≠X.env.locals:=fun x c e z=>by
 obtain ⟨v,o,ho,hd⟩:=I.cell x c e
 obtain ⟨m,⟨o',es,ep,ho',hd',_⟩,_⟩:=I.loc
 rw [z,ho'] at ho; cases ho; rw [hd'] at hd; cases hd
theorem Inv.funs (I:Inv X pins σ H s):s.heap.FunFrames X.base X.outer:=by
 have all:∀ (l:List Env),(∀ b∈frs l,b∈X.fs)->X.s₀.heap.FunFrames X.base l->s.heap.FunFrames X.base l:=by
  intro l
  induction l with
  | nil=>intro _ _; trivial
  | cons env r ih =>
   intro hs hl
   obtain ⟨hk,⟨L,o,hf,hn,ho,hd⟩,hr⟩:=hl
   have hL:L∈X.fs:=hs L (by unfold frs; rw [List.filterMap_cons,hf]; exact List.mem_cons_self)
   obtain ⟨sl,e⟩:=I.base.slot L o ho (I.ok.frf L hL) hL fun z=>I.ok.exfs L z hL
   exact ⟨hk,⟨L,_,hf,hn,e,hd⟩,ih (fun b hb=>hs b (by unfold frs; rw [List.filterMap_cons,hf]; exact List.mem_cons_of_mem _ hb)) hr⟩
 exact all X.outer (fun _ hb=>hb) I.ok.funs
theorem Inv.stack (I:Inv X pins σ H s):s.heap.FunFrames X.base X.stack:=by
 rcases I.ok.stk with e | ⟨e,hf⟩
 ·rw [e]; exact I.funs
 ·rw [e]
  obtain ⟨m,hn,_⟩:=I.loc
  refine .cons (by rw [I.ok.kind]; decide) hf hn ?_ I.funs
  exact Heap.get?_none_of_le (Nat.le_trans I.ok.bsz I.ok.above)
theorem Inv.stkSub (I:Inv X pins σ H s):∀ b∈frs X.stack,b∈X.env.locals :: X.fs:=fun b hb=>by
 rcases I.ok.stk with e | ⟨e,hf⟩
 ·rw [e] at hb; exact List.mem_cons_of_mem _ hb
 ·rw [e] at hb
  unfold frs at hb
  rw [List.filterMap_cons,hf] at hb
  exact hb
theorem Inv.stkFree (I:Inv X pins σ H s):∀ b∈frs X.stack,H b=none:=fun b hb=>by
 rcases List.mem_cons.mp (I.stkSub b hb) with e | hb
 ·rw [e]; exact I.free
 ·obtain ⟨_,o,ho,_⟩:=I.ok.funs.mem hb
  exact I.base.free b o ho (I.ok.frf b hb) fun z=>I.ok.exfs b z hb
theorem Inv.step {g':Array GenState} {t':Nat} {d':Drawn} {ch:List Addr} (I:Inv X pins σ H s)
  (hch:∀ b∈ch,(b∈X.ex\/X.s₀.heap.objs.size<=b)/\b≠X.env.locals/\(∀ x c,X.env.cells.lookup x=some c->c≠b)/\∀ p∈X.pn++pins,p.1≠b)
  (keep:∀ b o,b≠X.env.locals->b∉X.fs->b∉ch->s.heap.get? b=some o->H b=none->h'.get? b=some o)
  (slot:∀ b o,b≠X.env.locals->b∈X.fs->b∉ch->s.heap.get? b=some o->H b=none->∃ sl,h'.get? b=some { o with slots:=sl }) (free:∀ b o,b∉ch->s.heap.get? b=some o->H b=none->H' b=none)
  (there:∀ b o,b∉ch->s.heap.get? b=some o->∃ o',h'.get? b=some o')
  (tups:∀ b xs,H b=some (.tup xs)->H' b=some (.tup xs)) (frzs:∀ b o u,H b=some (.frz o u)->H' b=some (.frz o u)) (tbls:∀ b ps,H b=some (.tbl ps)->∃ more,H' b=some (.tbl (ps++more)))
  (ns:∀ m,s.heap.Ns X.env.locals m->h'.Ns X.env.locals m) (hok:HOk X.prog X.w H' h') (hg:AllBare g') :
  Inv X pins σ H' { s with heap:=h',gens:=g',drawn:=d',toks:=t' }:=by
 have neL:∀ b o,X.s₀.heap.get? b=some o->b≠X.env.locals:=fun b o e=>Nat.ne_of_lt (Nat.lt_of_lt_of_le (Heap.lt_size e) I.ok.above)
 have neC:∀ b o,X.s₀.heap.get? b=some o->b∉X.ex->b∉ch:=fun b o e hx hb=>by
  rcases (hch b hb).1 with z | z
  ·exact hx z
  ·exact absurd (Nat.lt_of_lt_of_le (Heap.lt_size e) z) (Nat.lt_irrefl _)
 have cellK:∀ x c,X.env.cells.lookup x=some c->∀ v,s.heap.IsCell c v->h'.IsCell c v:=fun x c e v ⟨o,ho,hd⟩=>by
  have nch:c∉ch:=fun z=>(hch c z).2.2.1 x c e rfl
  by_cases hc:c∈X.fs
  ·obtain ⟨sl,q⟩:=slot c o (I.cne x c e) hc nch ho (I.freeC x c e)
   exact ⟨_,q,hd⟩
  ·exact ⟨o,keep c o (I.cne x c e) hc nch ho (I.freeC x c e),hd⟩
 refine ⟨I.ok,I.os,hg,⟨fun b o e n hb hx=>?_,fun b o e n hb hx=>?_,fun b o e n hx=>?_,fun b o e hx=>?_,fun b xs e=>tups b xs (I.base.tups b xs e),fun b o xs e=>frzs b o xs (I.base.frzs b o xs e),fun b ps e=>?_⟩,?_,fun x c e=>?_,?_,fun x c e=>?_,fun p hp=>?_,hok,I.len⟩
 ·exact keep b o (neL b o e) hb (neC b o e hx) (I.base.keep b o e n hb hx) (I.base.free b o e n hx)
 ·obtain ⟨sl,e1⟩:=I.base.slot b o e n hb hx
  obtain ⟨sl',e2⟩:=slot b _ (neL b o e) hb (neC b o e hx) e1 (I.base.free b o e n hx)
  exact ⟨sl',e2⟩
 ·obtain ⟨o',e1⟩:=I.base.there b o e hx
  exact free b o' (neC b o e hx) e1 (I.base.free b o e n hx)
 ·obtain ⟨o',e1⟩:=I.base.there b o e hx
  exact there b o' (neC b o e hx) e1
 ·obtain ⟨m1,e1⟩:=I.base.tbls b ps e
  obtain ⟨m2,e2⟩:=tbls b _ e1
  exact ⟨m1++m2,by rw [e2,Array.append_assoc]⟩
 ·obtain ⟨m,hn,hl⟩:=I.loc
  refine ⟨m,ns m hn,fun i x v e1 e2 e3=>?_⟩
  obtain ⟨u,r,l⟩:=hl i x v e1 e2 e3
  refine ⟨u,r,?_⟩
  rcases l with l | ⟨k,c,e,z⟩
  ·exact .inl l
  ·exact .inr ⟨k,c,e,cellK x c e _ z⟩
 ·obtain ⟨v,z⟩:=I.cell x c e
  exact ⟨v,cellK x c e v z⟩
 ·obtain ⟨m,⟨o,_,_,ho,_⟩,_⟩:=I.loc
  exact free _ o (fun z=>(hch _ z).2.1 rfl) ho I.free
 ·obtain ⟨v,o,ho,hd⟩:=I.cell x c e
  exact free c o (fun z=>(hch c z).2.2.1 x c e rfl) ho (I.freeC x c e)
 ·obtain ⟨e,n,ne,nf,d⟩:=I.pin p hp
  have nch:p.1∉ch:=fun z=>(hch p.1 z).2.2.2 p hp rfl
  exact ⟨keep p.1 p.2 ne nf nch e n,free p.1 p.2 nch e n,ne,nf,d⟩
theorem Inv.un {t':Nat} (I:Inv X pins σ H s) (u:Un X.fs [] H H' s.heap h') (hok:HOk X.prog X.w H' h'):Inv X pins σ H' { s with heap:=h',toks:=t' }:=by
 obtain ⟨m,⟨o,es,ep,ho,r⟩,_⟩:=id I.loc
 obtain ⟨sl,hL⟩:=u.any ho I.free (by simp)
 exact I.step (g':=s.gens) (d':=s.drawn) (ch:=[]) (fun _ z=>nomatch z) (fun b o _ hb _ e n=>u.keep b o e n hb (by simp)) (fun b o _ hb _ e n=>u.slot b o e n hb (by simp)) (fun b o _ e n=>u.free b o e n (by simp)) (fun b o _ e=>u.there b o e (by simp)) u.tups u.frzs u.tbls (fun m' hm=>by
  obtain ⟨o',es',ep',ho',r'⟩:=hm
  rw [ho] at ho'; cases ho'
  exact ⟨_,es',ep',hL,r'⟩) hok I.bare
theorem Inv.call {g':Array GenState} {t':Nat} {d':Drawn} {ch:List Addr} (I:Inv X pins σ H s) (u:Un (frs X.stack) ch H H' s.heap h') (hok:HOk X.prog X.w H' h') (hg:AllBare g')
  (hch:∀ b∈ch,(b∈X.ex\/X.s₀.heap.objs.size<=b)/\b≠X.env.locals/\(∀ x c,X.env.cells.lookup x=some c->c≠b)/\∀ p∈X.pn++pins,p.1≠b) :
  Inv X pins σ H' { s with heap:=h',gens:=g',drawn:=d',toks:=t' }:=by
 obtain ⟨m,⟨o,es,ep,ho,r⟩,_⟩:=id I.loc
 obtain ⟨sl,hL⟩:=u.any ho I.free fun z=>(hch _ z).2.1 rfl
 exact I.step (ch:=ch) hch (fun b o hL hb hc e n=>u.keep b o e n (fun z=>(List.mem_cons.mp (I.stkSub b z)).elim hL hb) hc) (fun b o _ _ hc e n=>u.any e n hc) (fun b o hc e n=>u.free b o e n hc) (fun b o hc e=>u.there b o e hc) u.tups u.frzs u.tbls (fun m' hm=>by
  obtain ⟨o',es',ep',ho',r'⟩:=hm
  rw [ho] at ho'; cases ho'
  exact ⟨_,es',ep',hL,r'⟩) hok hg
theorem Inv.turned {t':Nat} {it:Addr} (I:Inv X pins σ H s) (k:∀ b o,b≠it->s.heap.get? b=some o->h'.get? b=some o) (hn:H it=none) (hL:it≠X.env.locals)
  (h1:it∈X.ex\/X.s₀.heap.objs.size<=it) (h2:∀ x c,X.env.cells.lookup x=some c->c≠it) (h3:∀ p∈X.pn++pins,p.1≠it):Inv X pins σ H { s with heap:=h',toks:=t' }:=by
 have nit:∀ b u,H b=some u->b≠it:=fun b u e z=>by rw [z,hn] at e; cases e
 refine I.step (g':=s.gens) (d':=s.drawn) (ch:=[it]) (fun b hb=>?_) (fun b o _ _ hc e _=>k b o (fun z=>hc (by simp [z])) e) (fun b o _ _ hc e _=>⟨o.slots,k b o (fun z=>hc (by simp [z])) e⟩) (fun _ _ _ _ n=>n)
  (fun b o hc e=>⟨o,k b o (fun z=>hc (by simp [z])) e⟩) (fun _ _ e=>e) (fun _ _ _ e=>e) (fun b ps e=>⟨#[],by rw [e]; simp⟩) (fun m hm=>?_) (fun b u e=>?_) I.bare
 ·have e:b=it:=by simpa using hb
  subst e
  exact ⟨h1,hL,h2,h3⟩
 ·obtain ⟨o,es,ep,ho,r⟩:=hm
  exact ⟨o,es,ep,k _ o (Ne.symm hL) ho,r⟩
 ·refine (I.hok b u e).stay (fun c v hc q=>k c v ?_ q) (fun _ q=>q) fun _ _ q=>q
  rcases hc with z | z
  ·rw [z]; exact nit b u e
  ·exact nit c _ z
theorem Inv.tok (I:Inv X pins σ H s) (t:Nat):Inv X pins σ H { s with toks:=t }:=I.un (h':=s.heap) (t':=t) Un.refl I.hok
theorem Inv.kept {t':Nat} (I:Inv X pins σ H s) (k:∀ b u,s.heap.get? b=some u->h'.get? b=some u):Inv X pins σ H { s with heap:=h',toks:=t' }:=I.un (Un.kept k) (I.hok.kept k)
theorem Inv.laid {a:Addr} {o:HO} {t':Nat} (I:Inv X pins σ H s) (k:∀ b u,s.heap.get? b=some u->h'.get? b=some u) (hp:s.heap.objs.size<=a) (new:tZ X.prog X.w (upd H a o) h' a o) :
  Inv X pins σ (upd H a o) { s with heap:=h',toks:=t' }:=I.un (Un.laid k hp (I.hok.fresh hp)) (I.hok.laid k hp new)
theorem Inv.write {x e:Addr} {o:HO} {t':Nat} (I:Inv X pins σ H s) (mu:Mut (H x)) (he:e=x\/H e=some (.own x)) (k:∀ b u,b≠e->s.heap.get? b=some u->h'.get? b=some u) (heo:∃ u,h'.get? e=some u)
  (new:tZ X.prog X.w (upd H x o) h' x o):Inv X pins σ (upd H x o) { s with heap:=h',toks:=t' }:=I.un (Un.write mu he k heo) (I.hok.write mu he k heo new)
theorem Inv.pins_of {pins':List (Addr × Obj)} (I:Inv X pins σ H s) (h:∀ p∈pins',s.heap.get? p.1=some p.2/\H p.1=none/\p.1≠X.env.locals/\p.1∉X.fs/\∀ v,p.2.data ≠ .cell v):Inv X pins' σ H s:=
 ⟨I.ok,I.os,I.bare,I.base,I.loc,I.cell,I.free,I.freeC,fun p hp=>(List.mem_append.mp hp).elim (fun z=>I.pin p (List.mem_append_left _ z)) (h p),I.hok,I.len⟩
theorem c7Q {N:List Str} (hN:N.Nodup) {i j:Nat} {x:Str} (a:N[i]?=some x) (b:N[j]?=some x):i=j:=by
 obtain ⟨h1,e1⟩:=List.getElem?_eq_some_iff.mp a
 obtain ⟨h2,e2⟩:=List.getElem?_eq_some_iff.mp b
 exact (List.getElem_inj hN).mp (e1.trans e2.symm)
theorem p4Q {M:Model} {A:Around} {E:Value->Shared->Prop} {i:Nat} {x:Str} {v:V} {u:Value} {Q:Unit->Shared->Prop} (I:Inv X pins σ H s) (hN:X.N.Nodup) (hi:X.N[i]?=some x) (hx:Loc X.env.scope x) (r:qZ v u)
  (h:∀ s',Inv X pins (σ.set i (some v)) H s'->(∃ a,Heap.SameBut a s.heap s'.heap/\(a=X.env.locals\/X.env.cells.lookup x=some a))->Q () s') (hf:X.fn x=true\/X.env.scope.names.lookup x=some .local:=by first | exact .inl rfl | exact .inr rfl | assumption):wpAny M A (storeName X.env x u) Q E s:=by
 obtain ⟨m,hn,hl⟩:=id I.loc
 have hcls:(X.env.scope.kind == .class || (X.env.scope.kind == .module && X.env.locals != X.env.globals))=false:=by rw [I.ok.kind]; rfl
 have hiσ:i < σ.length:=by rw [I.len]; exact (List.getElem?_eq_some_iff.mp hi).1
 have cne:=I.cne
 have tracked:∀ {a:Addr} {h':Heap},(∃ o,s.heap.get? a=some o/\H a=none)->Heap.SameBut a s.heap h'->HOk X.prog X.w H h':=fun {a h'} ha hs b ob e=>by
  obtain ⟨_,_,hfree⟩:=ha
  refine (I.hok b ob e).stay (fun c w' hc q=>(hs.2 c ?_).trans q) (fun _ q=>q) fun _ _ q=>q
  rintro rfl
  rcases hc with rfl | hc
  ·rw [hfree] at e; cases e
  ·rw [hfree] at hc; cases hc
 rcases hx with hk | hk
 ·refine wpAny_storeName_local hk hn (fun h' hn' hs=>?_) hcls
  obtain ⟨oL,_,_,hoL,_⟩:=id hn
  refine h _ ⟨I.ok,I.os,I.bare,⟨fun b o e n hb hx=>?_,fun b o e n hb hx=>?_,I.base.free,fun b o e hx=>?_,I.base.tups,I.base.frzs,I.base.tbls⟩,⟨_,hn',fun j y v' e1 e2 e3=>?_⟩,fun y c e=>?_,I.free,I.freeC,fun p hp=>?_,tracked ⟨oL,hoL,I.free⟩ hs,by simpa using I.len⟩ ⟨_,hs,.inl rfl⟩
  ·exact (hs.2 b (Nat.ne_of_lt (Nat.lt_of_lt_of_le (Heap.lt_size e) I.ok.above))).trans (I.base.keep b o e n hb hx)
  ·obtain ⟨sl,e1⟩:=I.base.slot b o e n hb hx
   exact ⟨sl,(hs.2 b (Nat.ne_of_lt (Nat.lt_of_lt_of_le (Heap.lt_size e) I.ok.above))).trans e1⟩
  ·obtain ⟨o',e1⟩:=I.base.there b o e hx
   exact ⟨o',(hs.2 b (Nat.ne_of_lt (Nat.lt_of_lt_of_le (Heap.lt_size e) I.ok.above))).trans e1⟩
  ·by_cases hj:j=i
   ·subst hj
    rw [hi] at e1; cases e1
    rw [List.getElem?_set_self hiσ] at e2
    cases e2
    exact ⟨u,r,.inl ⟨hk,by simp⟩⟩
   ·rw [List.getElem?_set_ne (Ne.symm hj)] at e2
    obtain ⟨u',r',q⟩:=hl j y v' e1 e2 e3
    refine ⟨u',r',?_⟩
    rcases q with ⟨k,e⟩ | ⟨k,c,e,z⟩
    ·refine .inl ⟨k,?_⟩
     have:y≠x:=fun e=>hj (c7Q hN e1 (e ▸ hi))
     simp [this,e]
    ·exact .inr ⟨k,c,e,z.sameBut hs (cne y c e)⟩
  ·obtain ⟨w',z⟩:=I.cell y c e
   exact ⟨w',z.sameBut hs (cne y c e)⟩
  ·obtain ⟨e,n,ne,nf,d⟩:=I.pin p hp
   exact ⟨(hs.2 p.1 ne).trans e,n,ne,nf,d⟩
 ·have hfn:X.fn x=true:=by
   rcases hf with z | z
   ·exact z
   ·rw [z] at hk; cases hk
  obtain ⟨c,hc⟩:=I.ok.has x (.inl hk)
  obtain ⟨w',z⟩:=I.cell x c hc
  refine wpAny_storeName_cell I.ok.kind hk hc z (fun h' hc' hs=>?_)
  obtain ⟨oc,hoc,hocd⟩:=id z
  refine h { s with heap:=h' } ⟨I.ok,I.os,I.bare,⟨fun b o e n hb hx=>?_,fun b o e n hb hx=>?_,I.base.free,fun b o e hx=>?_,I.base.tups,I.base.frzs,I.base.tbls⟩,⟨m,hn.sameBut hs (Ne.symm (cne x c hc)),fun j y v' e1 e2 e3=>?_⟩,fun y c' e=>?_,I.free,I.freeC,fun p hp=>?_,tracked ⟨oc,hoc,I.freeC x c hc⟩ hs,by simpa using I.len⟩ ⟨c,hs,.inr hc⟩
  ·exact (hs.2 b (Nat.ne_of_lt (Nat.lt_of_lt_of_le (Heap.lt_size e) (I.ok.cab x c hfn hc)))).trans (I.base.keep b o e n hb hx)
  ·obtain ⟨sl,e1⟩:=I.base.slot b o e n hb hx
   exact ⟨sl,(hs.2 b (Nat.ne_of_lt (Nat.lt_of_lt_of_le (Heap.lt_size e) (I.ok.cab x c hfn hc)))).trans e1⟩
  ·obtain ⟨o',e1⟩:=I.base.there b o e hx
   exact ⟨o',(hs.2 b (Nat.ne_of_lt (Nat.lt_of_lt_of_le (Heap.lt_size e) (I.ok.cab x c hfn hc)))).trans e1⟩
  ·by_cases hj:j=i
   ·subst hj
    rw [hi] at e1; cases e1
    rw [List.getElem?_set_self hiσ] at e2
    cases e2
    exact ⟨u,r,.inr ⟨.inl hk,c,hc,hc'⟩⟩
   ·rw [List.getElem?_set_ne (Ne.symm hj)] at e2
    obtain ⟨u',r',q⟩:=hl j y v' e1 e2 e3
    refine ⟨u',r',?_⟩
    rcases q with q | ⟨k,c',e,z'⟩
    ·exact .inl q
    ·refine .inr ⟨k,c',e,z'.sameBut hs ?_⟩
     rintro rfl
     exact hj (c7Q hN e1 (I.ok.inj _ _ _ e hc ▸ hi))
  ·by_cases hcc:c'=c
   ·subst hcc; exact ⟨_,hc'⟩
   ·obtain ⟨w2,z2⟩:=I.cell y c' e
    exact ⟨w2,z2.sameBut hs hcc⟩
  ·obtain ⟨e,n,ne,nf,d⟩:=I.pin p hp
   refine ⟨(hs.2 p.1 ?_).trans e,n,ne,nf,d⟩
   intro q
   rw [q,hoc] at e
   have q':oc=p.2:=Option.some.inj e
   exact d w' (by rw [<-q']; exact hocd)
theorem d7Q {M:Model} {A:Around} {E:Value->Shared->Prop} {i:Nat} {x:Str} {v:V} {u:Value} {Q:Unit->Shared->Prop} (I:Inv X pins σ H s) (hN:X.N.Nodup) (hi:X.N[i]?=some x) (hx:Loc X.env.scope x) (r:qZ v u)
  (h:∀ s',Inv X pins (σ.set i (some v)) H s'->Q () s') (hf:X.fn x=true\/X.env.scope.names.lookup x=some .local:=by first | exact .inl rfl | exact .inr rfl | assumption):wpAny M A (storeName X.env x u) Q E s:=
 p4Q I hN hi hx r (fun s' I' _=>h s' I') hf
theorem Inv.call' {s':Shared} {ch:List Addr} (I:Inv X pins σ H s) (ho:s'.os=s.os) (u:Un (frs X.stack) ch H H' s.heap s'.heap) (hok:HOk X.prog X.w H' s'.heap) (hg:AllBare s'.gens)
  (hch:∀ b∈ch,(b∈X.ex\/X.s₀.heap.objs.size<=b)/\b≠X.env.locals/\(∀ x c,X.env.cells.lookup x=some c->c≠b)/\∀ p∈X.pn++pins,p.1≠b):Inv X pins σ H' s':=by
 obtain ⟨h',g',d',t',o'⟩:=s'
 have e:o'=s.os:=ho
 subst e
 exact I.call (g':=g') (t':=t') (d':=d') u hok hg hch
end
abbrev XK:=Value->Option Addr->Hp->Prop
abbrev St:=List (Option V)
abbrev VK:=V->Hp->Prop
abbrev TE:=St->Hp->VK->Prop
abbrev TT:=St->Hp->(Bool->Hp->Prop)->Prop
abbrev TA:=St->Hp->(List V->Hp->Prop)->Prop
structure Ends where
 nx:St->Hp->Prop
 rt:VK
 bk:St->Hp->Prop:=fun _ _=>False
 ct:St->Hp->Prop:=fun _ _=>False
abbrev TS:=Ends->St->Hp->Prop
def EP (X:Cx) (pins:List (Addr × Obj)) (σ:St) (Q:VK) (u:Value) (s':Shared):Prop:=∃ v H',Inv X pins σ H' s'/\qZ v u/\Q v H'
def TP (X:Cx) (pins:List (Addr × Obj)) (σ:St) (Q:Bool->Hp->Prop) (b:Bool) (s':Shared):Prop:=∃ H',Inv X pins σ H' s'/\Q b H'
def AP (X:Cx) (pins:List (Addr × Obj)) (σ:St) (Q:List V->Hp->Prop) (us:List Value) (s':Shared):Prop:=∃ vs H',Inv X pins σ H' s'/\rZ vs us/\Q vs H'
def SP (X:Cx) (pins:List (Addr × Obj)) (D:Ends) (f:Flow) (s':Shared):Prop:=
 match f with
 | .next=>∃ σ' H',Inv X pins σ' H' s'/\D.nx σ' H'
 | .brk=>∃ σ' H',Inv X pins σ' H' s'/\D.bk σ' H'
 | .cont=>∃ σ' H',Inv X pins σ' H' s'/\D.ct σ' H'
 | .ret u=>∃ v σ' H',Inv X pins σ' H' s'/\qZ v u/\D.rt v H'
def PE (X:Cx) (e:Expr) (t:TE):Prop:=
 ∀ (pins:List (Addr × Obj)) (s:Shared) (σ:St) (H:Hp) (Q:VK),Inv X pins σ H s->t σ H Q->wpAny (model X.prog X.w) X.A (eval e X.env) (EP X pins σ Q) X.xe s
def PT (X:Cx) (e:Expr) (t:TT):Prop:=
 ∀ (pins:List (Addr × Obj)) (s:Shared) (σ:St) (H:Hp) (Q:Bool->Hp->Prop),Inv X pins σ H s->t σ H Q->wpAny (model X.prog X.w) X.A (isTrue e X.env (eval e X.env)) (TP X pins σ Q) X.xe s
def PW (X:Cx) (e:Expr) (t:TT):Prop:=
 ∀ (whole:Sem Value) (pins:List (Addr × Obj)) (s:Shared) (σ:St) (H:Hp) (Q:Bool->Hp->Prop),Inv X pins σ H s->t σ H Q->wpAny (model X.prog X.w) X.A (isTrue e X.env whole) (TP X pins σ Q) X.xe s
theorem PW.pt {X:Cx} {e:Expr} {t:TT} (h:PW X e t):PT X e t:=h _
def PA (X:Cx) (es:List Expr) (t:TA):Prop:=
 ∀ (pos:Pos) (pins:List (Addr × Obj)) (s:Shared) (σ:St) (H:Hp) (Q:List V->Hp->Prop),Inv X pins σ H s->t σ H Q->wpAny (model X.prog X.w) X.A (spliced (backTo pos (starEach es X.env))) (AP X pins σ Q) X.xe s
def PS (X:Cx) (st:Stmt) (t:TS):Prop:=
 ∀ (pins:List (Addr × Obj)) (s:Shared) (σ:St) (H:Hp) (D:Ends),Inv X pins σ H s->t D σ H->wpAny (model X.prog X.w) X.A (exec st X.env) (SP X pins D) X.xe s
def PSs (X:Cx) (st:List Stmt) (t:TS):Prop:=
 ∀ (pins:List (Addr × Obj)) (s:Shared) (σ:St) (H:Hp) (D:Ends),Inv X pins σ H s->t D σ H->wpAny (model X.prog X.w) X.A (execs st X.env) (SP X pins D) X.xe s
theorem thn {α:Type} {t:Sem α} {Q Q':α->Shared->Prop} {M:Model} {A:Around} {E:Value->Shared->Prop} {s:Shared} (h:wpAny M A t Q E s) (hQ:∀ a s,Q a s->Q' a s):wpAny M A t Q' E s:=wpAny_mono h hQ fun _ _ x=>x
end L2
namespace L2
open PySem PySem.Spec PyProof.Rows
section
variable {X:Cx}
theorem bin {a b:Expr} {ta tb:TE} (ha:PE X a ta) (hb:PE X b tb) {pins:List (Addr × Obj)} {s:Shared} {σ:St} {H:Hp} {R:V->V->Hp->Prop} (I:Inv X pins σ H s) (h:ta σ H fun x H1=>tb σ H1 fun y H2=>R x y H2)
  {α:Type} {Q:α->Shared->Prop} {f:Value->Value->Sem α}
  (hf:∀ v u s2 x y H2,Inv X pins σ H2 s2->qZ x v->qZ y u->R x y H2->wpAny (model X.prog X.w) X.A (f v u) Q X.xe s2) :
  wpAny (model X.prog X.w) X.A (eval a X.env) (fun v s₁=>wpAny (model X.prog X.w) X.A (eval b X.env) (fun u s₂=>wpAny (model X.prog X.w) X.A (f v u) Q X.xe s₂) X.xe s₁) X.xe s:=by
 refine thn (ha pins s σ H _ I h) fun v s1 hh=>?_
 obtain ⟨x,H1,I1,r1,q1⟩:=hh
 refine thn (hb pins s1 σ H1 _ I1 q1) fun u s2 hh=>?_
 obtain ⟨y,H2,I2,r2,q2⟩:=hh
 exact hf v u s2 x y H2 I2 r1 r2 q2
def tVar (i:Nat):TE:=fun σ H Q=>∃ v,σ[i]?=some (some v)/\Q v H
def tC (v:V):TE:=fun _ H Q=>Q v H
theorem l0X {i:Nat} {x:Str} {pos:Pos} (hN:X.N[i]?=some x) (hv:Vis X.env.scope x) (hd:(x == ("__debug__":Str))=false:=by decide) (hcd:(x == ("__classdict__":Str))=false:=by decide):PE X (.Name x pos) (tVar i):=by
 intro pins s σ H Q I h
 obtain ⟨v,e,h⟩:=h
 obtain ⟨m,hn,hl⟩:=I.loc
 obtain ⟨u,r,l⟩:=hl i x v hN e hv
 have fin:EP X pins σ Q u s:=⟨v,H,I,r,h⟩
 rcases l with ⟨hk,hm⟩ | ⟨hk,c,hc,hcell⟩
 ·exact wpAny_Name (wpAny_loadName_local I.ok.kind hk hn hm fin) hd
 ·rcases hk with hk | hk
  ·exact wpAny_Name (wpAny_loadName_cell I.ok.kind hk hc hcell fin) hd
  ·exact wpAny_Name (wpAny_loadName_free I.ok.kind hk hc hcell fin hcd) hd
theorem cQ {i j pos}:PE X (.Constant (.int i) j pos) (tC (.int i)):=fun _ _ _ H _ I h=>wpAny_Constant_int ⟨.int i,H,I.tok _,⟨_,rfl⟩,h⟩
theorem jW {b j pos}:PE X (.Constant (.bool b) j pos) (tC (.bl b)):=fun _ _ _ H _ I h=>Constant_bool ⟨.bl b,H,I,rfl,h⟩
theorem w3Z {j pos}:PE X (.Constant .none j pos) (tC .non):=fun _ _ _ H _ I h=>Constant_none ⟨.non,H,I,rfl,h⟩
theorem tQ {x j pos}:PE X (.Constant (.str x) j pos) (tC (.str x)):=fun _ _ _ H _ I h=>Calls.Constant_str ⟨.str x,H,I.tok _,⟨_,rfl⟩,h⟩
def Gl (X:Cx) (x:Str):Prop:=X.env.kindOf x=some .globalImplicit
theorem w5Q {E:Value->Shared->Prop} {pins:List (Addr × Obj)} {s:Shared} {σ:St} {H:Hp} {x:Str} {u:Value} {pos:Pos} {Q:Value->Shared->Prop} (I:Inv X pins σ H s) (hg:Gl X x) (hm:X.mg x=some u) (h:Q u s)
  (hd:(x == ("__debug__":Str))=false:=by decide):wpAny (model X.prog X.w) X.A (eval (.Name x pos) X.env) Q E s:=
 Calls.Name_function_global I.ok.kind hg (Calls.loadGlobal_global (by rw [I.ok.glob]; exact I.mod.glob.keeps I.bk) hm h) hd
theorem wV {E:Value->Shared->Prop} {pins:List (Addr × Obj)} {s:Shared} {σ:St} {H:Hp} {x:Str} {u:Value} {pos:Pos} {Q:Value->Shared->Prop} (I:Inv X pins σ H s) (hg:Gl X x) (hm:X.mg x=none) (hv:bootBuiltins x=some u) (h:Q u s)
  (hn:x ≠ "__name__":=by decide) (hd:(x == ("__debug__":Str))=false:=by decide):wpAny (model X.prog X.w) X.A (eval (.Name x pos) X.env) Q E s:=by
 obtain ⟨mb,h1,h2⟩:=I.mod.blt
 exact Calls.Name_function_global I.ok.kind hg (Calls.loadGlobal_builtin (by rw [I.ok.glob]; exact I.mod.glob.keeps I.bk) hm (by rw [I.ok.blt]; exact h1.keeps I.bk) ((h2 x hn).trans hv) h) hd
theorem n7Z {x:Str} {v:V} {u:Value} {pos:Pos} (hg:Gl X x) (hm:X.mg x=some u) (r:qZ v u) (hd:(x == ("__debug__":Str))=false:=by decide):PE X (.Name x pos) (tC v):=
 fun _ _ _ H _ I h=>w5Q I hg hm ⟨v,H,I,r,h⟩ hd
theorem oV {x:Str} {v:V} {u:Value} {pos:Pos} (hg:Gl X x) (hm:X.mg x=none) (hv:bootBuiltins x=some u) (r:qZ v u) (hn:x ≠ "__name__":=by decide) (hd:(x == ("__debug__":Str))=false:=by decide):PE X (.Name x pos) (tC v):=
 fun _ _ _ H _ I h=>wV I hg hm hv ⟨v,H,I,r,h⟩ hn hd
variable {a b:Expr} {ta tb:TE} {pos:Pos}
def PC (X:Cx) (op:CmpOp) (a b:Expr) (t:TE):Prop:=
 ∀ (pins:List (Addr × Obj)) (s:Shared) (σ:St) (H:Hp) (Q:VK),Inv X pins σ H s->t σ H Q ->
  wpAny (model X.prog X.w) X.A (eval a X.env) (fun v s₁=>wpAny (model X.prog X.w) X.A (eval b X.env) (fun u s₂=>wpAny (model X.prog X.w) X.A (compareOp op v u) (EP X pins σ Q) X.xe s₂) X.xe s₁) X.xe s
theorem x3Z (b:Expr) {op:CmpOp} (h:op ≠ .In) (h2:op ≠ .NotIn):behindInMarks op b=false:=by
 have e1:(op == CmpOp.In)=false:=by cases op <;> first | rfl | exact absurd rfl h
 have e2:(op == CmpOp.NotIn)=false:=by cases op <;> first | rfl | exact absurd rfl h2
 cases b <;> simp [behindInMarks,e1,e2]
def tIsN (ta:TE):TE:=fun σ H Q=>ta σ H fun x H1=>Q (.bl (decide (x = .non))) H1
theorem qZ.none_iff {x:V} {v:Value} (r:qZ x v):(v == Value.none)=decide (x = .non):=by
 cases x with
 | non=>cases r; rfl
 | bl _=>cases r; rfl
 | int _=>obtain ⟨t,rfl⟩:=r; rfl
 | str _=>obtain ⟨t,rfl⟩:=r; rfl
 | byt _=>obtain ⟨t,rfl⟩:=r; rfl
 | flt _=>obtain ⟨t,rfl⟩:=r; rfl
 | ref _=>cases r; rfl
 | ty _=>cases r; rfl
theorem m0X {j pos'} (ha:PE X a ta):PC X .Is a (.Constant .none j pos') (tIsN ta):=by
 intro pins s σ H Q I h
 refine thn (ha pins s σ H _ I h) fun v s1 hh=>?_
 obtain ⟨x,H1,I1,r1,q1⟩:=hh
 exact Constant_none (is_none_gen ⟨.bl _,H1,I1,by rw [r1.none_iff]; rfl,q1⟩)
def tB (t:TE):TT:=fun σ H Q=>t σ H fun x H1=>∃ c,x = .bl c/\Q c H1
theorem y3Z {op:CmpOp} {t:TE} (h:PC X op a b t) (h1:behindInMarks op b=false:=by first | exact x3Z _ (by decide) (by decide) | rfl):PT X (.Compare a [op] [b] pos) (tB t):=by
 intro pins s σ H Q I hw
 refine wpAny_isTrue_Compare1 (thn (h pins s σ H _ I hw) fun v s1 h1=>thn h1 fun u s2 h2=>thn h2 fun c s3 hh=>?_) h1
 obtain ⟨x,H1,I1,r1,q1⟩:=hh
 obtain ⟨d,rfl,q⟩:=q1
 cases r1
 exact wpAny_truthy_bool ⟨H1,I1,q⟩
theorem lJ {e:Expr} {t:TE} (h:PE X e t) (he:∀ whole,isTrue e X.env whole=(do let v <- whole; standAt e.pos; holding [v] (truthy v)):=by intro _; rfl):PT X e (tB t):=by
 intro pins s σ H Q I hw
 refine isTrue_plain (thn (h pins s σ H _ I hw) fun v s1 hh=>?_) (he _)
 obtain ⟨x,H1,I1,r1,q1⟩:=hh
 obtain ⟨d,rfl,q⟩:=q1
 cases r1
 exact wpAny_truthy_bool ⟨H1,I1,q⟩
variable {tA tB':TT} {rest:List Expr}
def tAnd (t u:TT):TT:=fun σ H Q=>t σ H fun c H1=>if c=true then u σ H1 Q else Q false H1
def tOr (t u:TT):TT:=fun σ H Q=>t σ H fun c H1=>if c=true then Q true H1 else u σ H1 Q
def tNot (t:TT):TT:=fun σ H Q=>t σ H fun c H1=>Q (!c) H1
theorem a2Q (ha:PT X a tA):PW X (.BoolOp .And [a] pos) tA:=by
 intro wh pins s σ H Q I h
 refine isTrue_and (thn (ha pins s σ H Q I h) fun c s1 e=>?_)
 cases c with
 | true=>exact isTrue_and_nil e
 | false=>exact e
theorem mW (ha:PT X a tA):PW X (.BoolOp .Or [a] pos) tA:=by
 intro wh pins s σ H Q I h
 refine isTrue_or (thn (ha pins s σ H Q I h) fun c s1 e=>?_)
 cases c with
 | false=>exact isTrue_or_nil e
 | true=>exact e
theorem x5Q (ha:PT X a tA) (hb:PW X (.BoolOp .And (b :: rest) pos) tB'):PW X (.BoolOp .And (a :: b :: rest) pos) (tAnd tA tB'):=by
 intro wh pins s σ H Q I h
 refine isTrue_and (thn (ha pins s σ H _ I h) fun c s1 hh=>?_)
 obtain ⟨H1,I1,q1⟩:=hh
 cases c with
 | true=>exact hb wh pins s1 σ H1 Q I1 q1
 | false=>exact ⟨H1,I1,q1⟩
theorem xV (ha:PT X a tA) (hb:PW X (.BoolOp .Or (b :: rest) pos) tB'):PW X (.BoolOp .Or (a :: b :: rest) pos) (tOr tA tB'):=by
 intro wh pins s σ H Q I h
 refine isTrue_or (thn (ha pins s σ H _ I h) fun c s1 hh=>?_)
 obtain ⟨H1,I1,q1⟩:=hh
 cases c with
 | true=>exact ⟨H1,I1,q1⟩
 | false=>exact hb wh pins s1 σ H1 Q I1 q1
theorem nW (ha:PT X a tA):PT X (.UnaryOp .Not a pos) (tNot tA):=by
 intro pins s σ H Q I h
 exact isTrue_not (ha pins s σ H (fun c H1=>Q (!c) H1) I h)
def d2X (ta tb:TE):TE:=fun σ H Q=>ta σ H fun x H1=>∃ c,x = .bl c/\if c=true then tb σ H1 Q else Q (.bl false) H1
def tOrV (ta tb:TE):TE:=fun σ H Q=>ta σ H fun x H1=>∃ c,x = .bl c/\if c=true then Q (.bl true) H1 else tb σ H1 Q
theorem y5Q {op} {t:TE} (h:PE X a t):PE X (.BoolOp op [a] pos) t:=fun pins s σ H Q I hw=>BoolOp_one (h pins s σ H Q I hw)
theorem n0X (ha:PE X a ta) (hb:PE X (.BoolOp .And (b :: rest) pos) tb):PE X (.BoolOp .And (a :: b :: rest) pos) (d2X ta tb):=by
 intro pins s σ H Q I h
 refine BoolOp_and (thn (ha pins s σ H _ I h) fun v s1 hh=>?_)
 obtain ⟨x,H1,I1,r1,q1⟩:=hh
 obtain ⟨c,rfl,q1⟩:=q1
 cases r1
 refine wpAny_truthy_bool ?_
 cases c with
 | true=>exact hb pins s1 σ H1 Q I1 q1
 | false=>exact ⟨.bl false,H1,I1,rfl,q1⟩
theorem z3Z (ha:PE X a ta) (hb:PE X (.BoolOp .Or (b :: rest) pos) tb):PE X (.BoolOp .Or (a :: b :: rest) pos) (tOrV ta tb):=by
 intro pins s σ H Q I h
 refine BoolOp_or (thn (ha pins s σ H _ I h) fun v s1 hh=>?_)
 obtain ⟨x,H1,I1,r1,q1⟩:=hh
 obtain ⟨c,rfl,q1⟩:=q1
 cases r1
 refine wpAny_truthy_bool ?_
 cases c with
 | false=>exact hb pins s1 σ H1 Q I1 q1
 | true=>exact ⟨.bl true,H1,I1,rfl,q1⟩
def tIf (t:TT) (ta tb:TE):TE:=fun σ H Q=>t σ H fun c H1=>if c=true then ta σ H1 Q else tb σ H1 Q
theorem e7Q {c:Expr} (hc:PT X c tA) (ha:PE X a ta) (hb:PE X b tb):PE X (.IfExp c a b pos) (tIf tA ta tb):=by
 intro pins s σ H Q I h
 refine wpAny_IfExp (thn (hc pins s σ H _ I h) fun d s1 hh=>?_)
 obtain ⟨H1,I1,q1⟩:=hh
 cases d with
 | true=>exact ha pins s1 σ H1 Q I1 q1
 | false=>exact hb pins s1 σ H1 Q I1 q1
end
end L2
namespace L2
open PySem PySem.Spec PyProof.Rows
def SqL (K:W.Frag) (H:Hp) (a:Addr) (xs:List V):Prop:=
 Rd H a (.lst xs) \/
  ∃ (o:Obj) (its:Array Value) (n:Nat),K.lookup a=some o/\o.cls = .type "list"/\o.dict=none/\o.data = .seq its n/\its.size<=sizeLine/\rZ xs its.toList
def SqT (K:W.Frag) (H:Hp) (a:Addr) (xs:List V):Prop:=
 Rd H a (.tup xs) \/
  ∃ (o:Obj) (its:Array Value) (n:Nat),K.lookup a=some o/\o.cls = .type "tuple"/\o.data = .seq its n/\its.size<=sizeLine/\rZ xs its.toList
def absV:Value->Option V
 | .none=>some .non
 | .bool b=>some (.bl b)
 | .int i _=>some (.int i)
 | .str x _=>some (.str x)
 | .bytes b _=>some (.byt b)
 | .float b _=>some (.flt b)
 | .ref a=>some (.ref a)
 | .type n=>some (.ty n)
 | _=>none
theorem qZ.abs {x:V} {u:Value} (r:qZ x u):absV u=some x:=by
 cases x with
 | non=>cases r; rfl
 | bl _=>cases r; rfl
 | int _=>obtain ⟨t,rfl⟩:=r; rfl
 | str _=>obtain ⟨t,rfl⟩:=r; rfl
 | byt _=>obtain ⟨t,rfl⟩:=r; rfl
 | flt _=>obtain ⟨t,rfl⟩:=r; rfl
 | ref _=>cases r; rfl
 | ty _=>cases r; rfl
theorem qZ.inj {x y:V} {u:Value} (r:qZ x u) (q:qZ y u):x=y:=Option.some.inj (r.abs.symm.trans q.abs)
theorem rZ.inj:∀ {xs ys:List V} {us:List Value},rZ xs us->rZ ys us->xs=ys
 | _,_,_,.nil,.nil=>rfl
 | _,_,_,.cons r t,.cons r' t'=>by rw [r.inj r',rZ.inj t t']
section
variable {X:Cx} {pins:List (Addr × Obj)} {σ:St} {H:Hp} {s:Shared} {a:Addr} {xs ys:List V}
theorem SqL.of {K:W.Frag} (h:H a=some (.lst xs)):SqL K H a xs:=.inl (.inl h)
theorem SqT.of {K:W.Frag} (h:H a=some (.tup xs)):SqT K H a xs:=.inl (.inl h)
theorem Inv.list (I:Inv X pins σ H s) (h:SqL X.K H a xs):∃ its:List Value,rZ xs its/\PlainL s.heap a its.toArray/\xs.length<=sizeLine:=by
 rcases h with h | ⟨o,its,n,hk,hc,hd,hs,hz,r⟩
 ·obtain ⟨z,its,n,r,e⟩:=h.ok I.hok
  exact ⟨its,r,⟨_,n,e,rfl,rfl,rfl⟩,z⟩
 ·refine ⟨its.toList,r,⟨o,n,I.kIn a o hk,hc,hd,by simpa using hs⟩,?_⟩
  have e:=r.length
  simp only [Array.length_toList] at e
  omega
theorem Inv.tuple (I:Inv X pins σ H s) (h:SqT X.K H a xs):∃ its:List Value,rZ xs its/\IsTup s.heap a its.toArray/\xs.length<=sizeLine:=by
 rcases h with h | ⟨o,its,n,hk,hc,hs,hz,r⟩
 ·obtain ⟨z,its,r,p⟩:=h.ok I.hok
  exact ⟨its,r,p,z⟩
 ·refine ⟨its.toList,r,⟨o,I.kIn a o hk,hc,n,by simpa using hs⟩,?_⟩
  have e:=r.length
  simp only [Array.length_toList] at e
  omega
theorem Inv.list_inj (I:Inv X pins σ H s) (h:SqL X.K H a xs) (h':SqL X.K H a ys):xs=ys:=by
 obtain ⟨its,r,⟨o,n,e,_,_,d⟩,_⟩:=I.list h
 obtain ⟨its',r',⟨o',n',e',_,_,d'⟩,_⟩:=I.list h'
 rw [e] at e'; cases e'
 rw [d] at d'
 injection d' with d1 _
 have:its=its':=by simpa using congrArg Array.toList d1
 subst this
 exact r.inj r'
theorem Inv.tuple_inj (I:Inv X pins σ H s) (h:SqT X.K H a xs) (h':SqT X.K H a ys):xs=ys:=by
 obtain ⟨its,r,⟨o,e,_,n,d⟩,_⟩:=I.tuple h
 obtain ⟨its',r',⟨o',e',_,n',d'⟩,_⟩:=I.tuple h'
 rw [e] at e'; cases e'
 rw [d] at d'
 injection d' with d1 _
 have:its=its':=by simpa using congrArg Array.toList d1
 subst this
 exact r.inj r'
end
abbrev Cx.wish (X:Cx) (E:Value->Shared->Prop):Cx:={ X with xe:=E }
abbrev Cx.nox (X:Cx):Cx:=X.wish fun _ _=>False
theorem Cx.Ok.wish {X:Cx} (ok:X.Ok) (E:Value->Shared->Prop):(X.wish E).Ok:=
 ⟨ok.mod,ok.kind,ok.glob,ok.blt,ok.above,ok.inj,ok.has,ok.cab,ok.hd,ok.frames,ok.stk,ok.exf,ok.bs,ok.bsz,ok.noex,ok.exfs,ok.funs,ok.frf⟩
theorem Cx.Ok.unwish {X:Cx} {E:Value->Shared->Prop} (ok:(X.wish E).Ok):X.Ok:=
 ⟨ok.mod,ok.kind,ok.glob,ok.blt,ok.above,ok.inj,ok.has,ok.cab,ok.hd,ok.frames,ok.stk,ok.exf,ok.bs,ok.bsz,ok.noex,ok.exfs,ok.funs,ok.frf⟩
section
variable {X:Cx} {pins:List (Addr × Obj)} {σ:St} {H:Hp} {s:Shared} {E:Value->Shared->Prop}
theorem Inv.wish (I:Inv X pins σ H s) (E:Value->Shared->Prop):Inv (X.wish E) pins σ H s:=⟨I.ok.wish E,I.os,I.bare,I.base,I.loc,I.cell,I.free,I.freeC,I.pin,I.hok,I.len⟩
theorem Inv.unwish (I:Inv (X.wish E) pins σ H s):Inv X pins σ H s:=⟨I.ok.unwish,I.os,I.bare,I.base,I.loc,I.cell,I.free,I.freeC,I.pin,I.hok,I.len⟩
theorem SP.unwish {D:Ends} {f:Flow} {s':Shared} (h:SP (X.wish E) pins D f s'):SP X pins D f s':=by
 cases f with
 | next=>obtain ⟨σ',H',I,q⟩:=h; exact ⟨σ',H',I.unwish,q⟩
 | brk=>obtain ⟨σ',H',I,q⟩:=h; exact ⟨σ',H',I.unwish,q⟩
 | cont=>obtain ⟨σ',H',I,q⟩:=h; exact ⟨σ',H',I.unwish,q⟩
 | ret u=>obtain ⟨v,σ',H',I,r,q⟩:=h; exact ⟨v,σ',H',I.unwish,r,q⟩
theorem PSs.nox {st:List Stmt} {t:TS} (h:PSs X.nox st t):PSs X st t:=fun pins s σ H D I hw =>
 wpAny_mono (h pins s σ H D (I.wish _) hw) (fun _ _ q=>q.unwish) fun _ _ z=>False.elim z
end
section
variable {X:Cx} {st:Stmt} {rest:List Stmt} {t u:TS} {e:Expr} {te:TE} {pos:Pos}
def tNext:TS:=fun D σ H=>D.nx σ H
def tSeq (t u:TS):TS:=fun D σ H=>t { D with nx:=u D } σ H
theorem sQ:PSs X [] tNext:=fun _ _ σ H _ I h=>wpAny_execs_nil ⟨σ,H,I,h⟩
theorem bQ (h1:PS X st t) (h2:PSs X rest u):PSs X (st :: rest) (tSeq t u):=by
 intro pins s σ H D I h
 refine wpAny_execs_cons (thn (h1 pins s σ H { D with nx:=u D } I h) fun f s1 q=>?_)
 cases f with
 | next =>
  obtain ⟨σ',H',I',q⟩:=q
  exact h2 pins s1 σ' H' D I' q
 | ret v=>exact q
 | brk=>exact q
 | cont=>exact q
theorem fQ (h1:PS X st t):PSs X [st] t:=by
 intro pins s σ H D I h
 refine wpAny_execs_cons (thn (h1 pins s σ H D I h) fun f s1 q=>?_)
 cases f with
 | next=>exact wpAny_execs_nil q
 | ret v=>exact q
 | brk=>exact q
 | cont=>exact q
def tCont:TS:=fun D σ H=>D.ct σ H
theorem f7Q:PS X (.Continue pos) tCont:=fun _ _ σ H _ I h=>wpAny_Continue ⟨σ,H,I,h⟩
theorem Inv.quiet {pins:List (Addr × Obj)} {σ:St} {H:Hp} {s:Shared} (I:Inv X pins σ H s):interactive X.env=false:=by simp [interactive,I.ok.kind]
def e2X (te:TE):TS:=fun D σ H=>te σ H fun _ H1=>D.nx σ H1
theorem lX (he:PE X e te) (hs:swapsWith e none pos.line X.env=pure false:=by rfl):PS X (.Expr e pos) (e2X te):=by
 intro pins s σ H D I h
 exact wpAny_Expr_any (thn (he pins s σ H _ I h) fun v s1 ⟨x,H1,I1,r1,q1⟩=>⟨σ,H1,I1,q1⟩) I.quiet hs
def tRet (te:TE):TS:=fun D σ H=>te σ H D.rt
theorem oQ (he:PE X e te):PS X (.Return (some e) pos) (tRet te):=by
 intro pins s σ H D I h
 exact wpAny_Return_some (thn (he pins s σ H _ I h) fun v s1 ⟨x,H1,I1,r1,q1⟩=>⟨x,σ,H1,I1,r1,q1⟩)
def tIfS (c:TT) (t u:TS):TS:=fun D σ H=>c σ H fun b H1=>if b=true then t D σ H1 else u D σ H1
theorem cZ {c:Expr} {a b:List Stmt} {tc:TT} (hc:PT X c tc) (ha:PSs X a t) (hb:PSs X b u):PS X (.If c a b pos) (tIfS tc t u):=by
 intro pins s σ H D I h
 refine wpAny_If (thn (hc pins s σ H _ I h) fun d s1 hh=>?_)
 obtain ⟨H1,I1,q1⟩:=hh
 cases d with
 | true=>exact ha pins s1 σ H1 D I1 q1
 | false=>exact hb pins s1 σ H1 D I1 q1
end
abbrev TG:=V->St->Hp->(St->Hp->Prop)->Prop
abbrev TGs:=List V->St->Hp->(St->Hp->Prop)->Prop
def PG (X:Cx) (target:Expr) (t:TG):Prop:=
 ∀ (pins:List (Addr × Obj)) (s:Shared) (σ:St) (H:Hp) (v:V) (u:Value) (Q:St->Hp->Prop),Inv X pins σ H s->qZ v u->t v σ H Q ->
  wpAny (model X.prog X.w) X.A (assign target X.env u) (fun _ s'=>∃ σ' H',Inv X pins σ' H' s'/\Q σ' H') X.xe s
def PGs (X:Cx) (ts:List Expr) (t:TGs):Prop:=
 ∀ (pins:List (Addr × Obj)) (s:Shared) (σ:St) (H:Hp) (vs:List V) (us:List Value) (Q:St->Hp->Prop),Inv X pins σ H s->rZ vs us->t vs σ H Q ->
  wpAny (model X.prog X.w) X.A (assignInOrder ((assignEach ts X.env).map (·.2)) us) (fun _ s'=>∃ σ' H',Inv X pins σ' H' s'/\Q σ' H') X.xe s
section
variable {X:Cx} {pos:Pos}
def fX (i:Nat):TG:=fun v σ H Q=>Q (σ.set i (some v)) H
theorem uQ {i:Nat} {x:Str} (hN:X.N.Nodup) (hi:X.N[i]?=some x) (hx:Loc X.env.scope x) (hf:X.fn x=true\/X.env.scope.names.lookup x=some .local:=by first | exact .inl rfl | exact .inr rfl | assumption):PG X (.Name x pos) (fX i):=by
 intro pins s σ H v u Q I r h
 exact wpAny_assign_Name (d7Q I hN hi hx r (fun s' I'=>⟨_,H,I',h⟩) hf)
def gNil:TGs:=fun vs σ H Q=>vs=[]/\Q σ H
def f2X (t:TG) (u:TGs):TGs:=fun vs σ H Q=>∃ v r,vs=v :: r/\t v σ H fun σ' H'=>u r σ' H' Q
theorem dJ:PGs X [] gNil:=by
 intro pins s σ H vs us Q I r h
 obtain ⟨e,h⟩:=h
 subst e
 cases r
 exact assignInOrder_nil ⟨σ,H,I,h⟩
theorem jZ {e:Expr} {es:List Expr} {t:TG} {u:TGs} (h1:PG X e t) (h2:PGs X es u)
  (hs:(assignEach (e :: es) X.env).map (·.2)=assign e X.env :: (assignEach es X.env).map (·.2):=by rfl):PGs X (e :: es) (f2X t u):=by
 intro pins s σ H vs us Q I r h
 obtain ⟨v,vr,e1,h⟩:=h
 subst e1
 cases r with
 | cons r rr =>
  rw [hs]
  refine assignInOrder_cons (thn (h1 pins s σ H _ _ _ I r h) fun _ s1 hh=>?_)
  obtain ⟨σ1,H1,I1,q1⟩:=hh
  exact h2 pins s1 σ1 H1 _ _ Q I1 rr q1
def gTup (K:W.Frag) (n:Nat) (t:TGs):TG:=fun v σ H Q=>∃ a xs,v = .ref a/\SqT K H a xs/\xs.length=n/\t xs σ H Q
theorem jK {es:List Expr} {k:Nat} {t:TGs} {n:Nat} (hc:X.calm=true) (h:PGs X es t)
  (hn:(assignEach es X.env).length=n:=by rfl) (hst:(assignEach es X.env).findIdx? (·.1)=none:=by rfl):PG X (.Tuple es k pos) (gTup X.K n t):=by
 intro pins s σ H v u Q I r hw
 obtain ⟨a,xs,e1,hq,hl,hw⟩:=hw
 subst e1
 cases r
 obtain ⟨its,rv,ht,hz⟩:=I.tuple hq
 refine assign_Tuple_tuple (I.ok.hd hc) ht (by simp [hn,<-hl,rv.length]) hst fun h' hx=>?_
 have I1:Inv X pins σ H { s with heap:=h' }:=I.kept (t':=s.toks) fun b o e=>hx b o (Nat.ne_of_lt (Heap.lt_size e)) e
 exact h pins _ σ H xs _ Q I1 (by simpa using rv) hw
def tAsg (te:TE) (g:TG):TS:=fun D σ H=>te σ H fun x H1=>g x σ H1 D.nx
theorem qQ {i:Nat} {x:Str} {e:Expr} {te:TE} {pos':Pos} (hN:X.N.Nodup) (hi:X.N[i]?=some x) (hx:Loc X.env.scope x) (he:PE X e te) (hs:swapsWith e (some (.Name x pos')) pos.line X.env=pure false:=by rfl) (hf:X.fn x=true\/X.env.scope.names.lookup x=some .local:=by first | exact .inl rfl | exact .inr rfl | assumption) :
  PS X (.Assign [.Name x pos'] e pos) (tAsg te (fX i)):=by
 intro pins s σ H D I h
 refine wpAny_Assign_Name (thn (he pins s σ H _ I h) fun v s1 hh=>?_) hs
 obtain ⟨y,H1,I1,r1,q1⟩:=hh
 exact d7Q I1 hN hi hx r1 (fun s2 I2=>⟨_,H1,I2,q1⟩) hf
end
section
variable {X:Cx} {pos:Pos}
def o0X (c:TT) (tb:TS):TS:=fun D σ H=>∃ W:Nat->St->Hp->Prop,(∃ m,W m σ H)/\∀ m σ H,W m σ H ->
 c σ H fun b H1=>if b=true then ∃ N:St->Hp->Prop,(∀ σ' H',N σ' H'->∃ m',m' < m/\W m' σ' H')/\tb { D with nx:=N,ct:=N,bk:=D.nx } σ H1 else D.nx σ H1
theorem a0Q {c:Expr} {body:List Stmt} {tc:TT} {tb:TS} (hp:PassesOwn (model X.prog X.w) X.A X.env X.xe) (hc:PT X c tc) (hb:PSs X body tb):PS X (.While c body [] pos) (o0X tc tb):=by
 intro pins s σ H D I h
 obtain ⟨W,⟨m0,w0⟩,turn⟩:=h
 refine wpAny_While (codeAny_whileLoop (fun n s'=>∃ σ' H',Inv X pins σ' H' s'/\W n σ' H') ?_ m0 ⟨σ,H,I,w0⟩)
 rintro n s1 ⟨σ1,H1,I1,w1⟩
 refine wpAny_passesOwn hp (thn (hc pins s1 σ1 H1 _ I1 (turn n σ1 H1 w1)) fun b s2 hh=>?_)
 obtain ⟨H2,I2,q2⟩:=hh
 cases b with
 | true =>
  obtain ⟨N,hN,q2⟩:=q2
  rw [if_pos rfl]
  refine wpAny_passesOwn hp (thn (hb pins s2 σ1 H2 _ I2 q2) fun f s3 q3=>?_)
  cases f with
  | next =>
   obtain ⟨σ3,H3,I3,n3⟩:=q3
   obtain ⟨m',hm,w3⟩:=hN σ3 H3 n3
   exact ⟨m',hm,σ3,H3,I3,w3⟩
  | cont =>
   obtain ⟨σ3,H3,I3,n3⟩:=q3
   obtain ⟨m',hm,w3⟩:=hN σ3 H3 n3
   exact ⟨m',hm,σ3,H3,I3,w3⟩
  | brk=>exact q3
  | ret v=>exact q3
 | false =>
  rw [if_neg Bool.false_ne_true]
  exact wpAny_execs_nil ⟨σ1,H2,I2,q2⟩
end
structure It where
 go:Nat->Hp->Prop
 yld:Nat->Hp->V->Hp->Prop
 stop:Nat->Hp->Prop
def pO (X:Cx) (pins:List (Addr × Obj)) (H:Hp) (b:Addr):Prop:=
 H b=none/\b≠X.env.locals/\b∉X.fs/\(b∈X.ex\/X.s₀.heap.objs.size<=b)/\(∀ x c,X.env.cells.lookup x=some c->c≠b)/\∀ p∈X.pn++pins,p.1≠b
theorem Inv.fpOk {X:Cx} {pins:List (Addr × Obj)} {σ:St} {H H':Hp} {s:Shared} {b:Addr} (I:Inv X pins σ H s) (hb:s.heap.objs.size<=b) (hn:H' b=none):pO X pins H' b:=by
 refine ⟨hn,Nat.ne_of_gt (Nat.lt_of_lt_of_le I.lt hb),I.nofs hb,.inr (Nat.le_trans I.sz hb),fun x c e z=>?_,fun p hp z=>?_⟩
 ·obtain ⟨v,q⟩:=I.cell x c e
  exact absurd (Nat.lt_of_lt_of_le q.lt (by rw [z]; exact hb)) (Nat.lt_irrefl _)
 ·exact absurd (Nat.lt_of_lt_of_le (Heap.lt_size (I.pin p hp).1) (by rw [z]; exact hb)) (Nat.lt_irrefl _)
structure Turn (P:Program) (w:World) (K:W.Frag) (tg:Expr) (J:It) (fp:List Addr) (it:Addr) (tn:Nat->Heap->Prop):Prop where
 mem:it∈fp
 obj:∀ i h,tn i h->∀ b∈fp,∃ o,h.get? b=some o/\∀ v,o.data ≠ .cell v
 keep:∀ i h h',tn i h->(∀ b∈fp,∀ o,h.get? b=some o->h'.get? b=some o)->tn i h'
 item:∀ (X:Cx),X.prog=P->X.w=w->X.K=K->X.calm=true->∀ (i:Nat) (pins:List (Addr × Obj)) (s:Shared) (σ:St) (H:Hp) (E:Value->Shared->Prop),Inv X pins σ H s->(∀ b∈fp,pO X pins H b)->tn i s.heap->J.go i H ->
  wpAny (model P w) X.A (pyNext (.ref it)) (fun r s1=>∃ u,r=some u /\
   wpAny (model P w) X.A (letOwnedTupleGo tg (.ref it) u) (fun _ s2=>∃ x H',Inv X pins σ H' s2/\qZ x u/\J.yld i H x H'/\tn (i + 1) s2.heap/\∀ b∈fp,H' b=none) E s1) E s
 done:∀ (X:Cx),X.prog=P->X.w=w->X.K=K->X.calm=true->∀ (i:Nat) (pins:List (Addr × Obj)) (s:Shared) (σ:St) (H:Hp) (E:Value->Shared->Prop),Inv X pins σ H s->(∀ b∈fp,pO X pins H b)->tn i s.heap->J.stop i H ->
  wpAny (model P w) X.A (pyNext (.ref it)) (fun r s1=>r=none/\Inv X pins σ H s1) E s
 self:∀ (A:Around) (i:Nat) (s:Shared) (Q:Value->Shared->Prop) (E:Value->Shared->Prop),tn i s.heap->Q (.ref it) s->wpAny (model P w) A (pyIter (.ref it)) Q E s
abbrev TI:=St->Hp->(It->Hp->Prop)->Prop
def PIE (X:Cx) (pins:List (Addr × Obj)) (σ:St) (tg:Expr) (R:It->Hp->Prop) (itv:Value) (s2:Shared):Prop:=
 ∃ (it:Addr) (fp:List Addr) (tn:Nat->Heap->Prop) (J:It) (H':Hp),itv = .ref it/\Inv X pins σ H' s2/\Turn X.prog X.w X.K tg J fp it tn/\tn 0 s2.heap/\(∀ b∈fp,pO X pins H' b)/\R J H'
def PI (X:Cx) (tg iter:Expr) (wi:TI):Prop:=
 ∀ (pins:List (Addr × Obj)) (s:Shared) (σ:St) (H:Hp) (R:It->Hp->Prop),Inv X pins σ H s->wi σ H R ->
  wpAny (model X.prog X.w) X.A (eval iter X.env) (fun v s1=>wpAny (model X.prog X.w) X.A (pyIter v) (PIE X pins σ tg R) X.xe s1) X.xe s
theorem m2Q {M:Model} {A:Around} {E:Value->Shared->Prop} {s:Shared} {tg:Expr} {it:Addr} {u:Value} {o:Obj} {n:String} {vs:Array Value} {Q:Unit->Shared->Prop} (ho:s.heap.get? it=some o) (hc:o.cls = .type n) (hd:o.data = .fields vs)
  (hn:["enumerate","zip","dict_itemiterator","dict_reverseitemiterator","odict_iterator","itertools.zip_longest","itertools.pairwise"].contains n=false) (hQ:Q () s):wpAny M A (letOwnedTupleGo tg (.ref it) u) Q E s:=by
 unfold letOwnedTupleGo
 cases tg <;> first
  | exact wpAny_pure hQ
  | (cases u <;> first
    | exact wpAny_pure hQ
    | (refine wpAny_bind (wpAny_load ho ?_)
       rw [hc,hd]
       show wpAny M A (if (["enumerate","zip","dict_itemiterator","dict_reverseitemiterator","odict_iterator","itertools.zip_longest","itertools.pairwise"].contains n && vs[0]? == some (rawInt _))=true then _ else _) Q E s
       rw [if_neg (by intro h; rw [hn,Bool.false_and] at h; cases h)]
       exact wpAny_pure hQ))
def Itl (K:W.Frag) (a:Addr):It:=
 ⟨fun i H=>∃ xs x,SqL K H a xs/\xs[i]?=some x,fun i H x H'=>H'=H/\∀ xs,SqL K H a xs->xs[i]?=some x,fun i H=>∃ xs,SqL K H a xs/\xs.length<=i⟩
def Itt (K:W.Frag) (a:Addr):It:=
 ⟨fun i H=>∃ xs x,SqT K H a xs/\xs[i]?=some x,fun i H x H'=>H'=H/\∀ xs,SqT K H a xs->xs[i]?=some x,fun i H=>∃ xs,SqT K H a xs/\xs.length<=i⟩
def Itr (lo:Int) (n:Nat):It:=⟨fun i _=>i < n,fun i H x H'=>H'=H/\x = .int (lo + i),fun i _=>n<=i⟩
theorem s1Z {P:Program} {w:World} {K:W.Frag} {tg:Expr} (a it:Addr):Turn P w K tg (Itl K a) [it] it (fun i h=>h.IsListIter it a i) where
 mem:=by simp
 obj:=fun i h st b hb=>by
  have e:b=it:=by simpa using hb
  subst e
  obtain ⟨o,e,c,d⟩:=st
  exact ⟨o,e,fun v z=>by rw [d] at z; cases z⟩
 keep:=fun i h h' st k=>st.at fun o e=>k it (by simp) o e
 item:=by
  intro X hP hw hK hc i pins s σ H E I hf st hg
  subst hP hw hK
  obtain ⟨xs,x,hq,hx⟩:=hg
  obtain ⟨its,rv,p,hz⟩:=I.list hq
  obtain ⟨u,hu,ru⟩:=rv.get hx
  obtain ⟨f0,f1,f2,f3,f4,f5⟩:=hf it (by simp)
  refine wpAny_pyNext_list_item st p.isList (x:=u) (by simpa using hu) fun h' st' sb=>?_
  have I1:Inv X pins σ H { s with heap:=h' }:=I.turned (t':=s.toks) (fun b o hb e=>(sb.2 b hb).trans e) f0 f1 f3 f4 f5
  obtain ⟨o,e,c,d⟩:=id st'
  exact ⟨u,rfl,m2Q (s:={ s with heap:=h' }) e c d (by decide) ⟨x,H,I1,ru,⟨rfl,fun ys hy=>by rw [I.list_inj hy hq]; exact hx⟩,st',fun b hb=>(hf b hb).1⟩⟩
 done:=by
  intro X hP hw hK hc i pins s σ H E I hf st hg
  subst hP hw hK
  obtain ⟨xs,hq,hx⟩:=hg
  obtain ⟨its,rv,p,hz⟩:=I.list hq
  obtain ⟨f0,f1,f2,f3,f4,f5⟩:=hf it (by simp)
  have hl:=rv.length
  exact wpAny_pyNext_list_end (I.ok.hd hc) st p.isList (by simp; omega) fun h' eb=>⟨rfl,I.turned (t':=s.toks) (fun b o hb e=>eb b o hb e) f0 f1 f3 f4 f5⟩
 self:=fun _ _ _ _ _ st h=>wpAny_pyIter_listiter st h
theorem t8Q {P:Program} {w:World} {K:W.Frag} {tg:Expr} (a it:Addr):Turn P w K tg (Itt K a) [it] it (fun i h=>h.IsTupleIter it a i) where
 mem:=by simp
 obj:=fun i h st b hb=>by
  have e:b=it:=by simpa using hb
  subst e
  obtain ⟨o,e,c,d⟩:=st
  exact ⟨o,e,fun v z=>by rw [d] at z; cases z⟩
 keep:=fun i h h' st k=>st.at fun o e=>k it (by simp) o e
 item:=by
  intro X hP hw hK hc i pins s σ H E I hf st hg
  subst hP hw hK
  obtain ⟨xs,x,hq,hx⟩:=hg
  obtain ⟨its,rv,p,hz⟩:=I.tuple hq
  obtain ⟨u,hu,ru⟩:=rv.get hx
  obtain ⟨f0,f1,f2,f3,f4,f5⟩:=hf it (by simp)
  refine wpAny_pyNext_tuple_item st (show s.heap.IsTuple a its.toArray from p) (x:=u) (by simpa using hu) fun h' st' sb=>?_
  have I1:Inv X pins σ H { s with heap:=h' }:=I.turned (t':=s.toks) (fun b o hb e=>(sb.2 b hb).trans e) f0 f1 f3 f4 f5
  obtain ⟨o,e,c,d⟩:=id st'
  exact ⟨u,rfl,m2Q (s:={ s with heap:=h' }) e c d (by decide) ⟨x,H,I1,ru,⟨rfl,fun ys hy=>by rw [I.tuple_inj hy hq]; exact hx⟩,st',fun b hb=>(hf b hb).1⟩⟩
 done:=by
  intro X hP hw hK hc i pins s σ H E I hf st hg
  subst hP hw hK
  obtain ⟨xs,hq,hx⟩:=hg
  obtain ⟨its,rv,p,hz⟩:=I.tuple hq
  obtain ⟨f0,f1,f2,f3,f4,f5⟩:=hf it (by simp)
  have hl:=rv.length
  exact wpAny_pyNext_tuple_end (I.ok.hd hc) st (show s.heap.IsTuple a its.toArray from p) (by simp; omega) fun h' eb=>⟨rfl,I.turned (t':=s.toks) (fun b o hb e=>eb b o hb e) f0 f1 f3 f4 f5⟩
 self:=fun _ _ _ _ _ st h=>wpAny_pyIter_tupleiter st h
theorem u8Q {P:Program} {w:World} {K:W.Frag} {tg:Expr} (it:Addr) (lo:Int) (n:Nat):Turn P w K tg (Itr lo n) [it] it (fun i h=>IsRangeIter h it (lo + (i:Nat) * 1) ((n:Int) - (i:Nat)) 1) where
 mem:=by simp
 obj:=fun i h st b hb=>by
  have e:b=it:=by simpa using hb
  subst e
  exact ⟨_,st,fun v z=>by
   have z':Data.fields _=Data.cell v:=z
   cases z'⟩
 keep:=fun i h h' st k=>k it (by simp) _ st
 item:=by
  intro X hP hw hK hc i pins s σ H E I hf st hg
  subst hP hw hK
  obtain ⟨f0,f1,f2,f3,f4,f5⟩:=hf it (by simp)
  have W:=Walks.range (prog:=X.prog) (w:=X.w) (I.ok.hd hc) it lo 1 n
  refine W.item i s _ _ hg st fun v h' tk hv st' kk=>?_
  obtain ⟨t,rfl⟩:=hv
  have I1:Inv X pins σ H { s with heap:=h',toks:=tk }:=I.turned (fun b o hb e=>kk b o (by simpa using hb) e) f0 f1 f3 f4 f5
  refine ⟨_,rfl,m2Q (s:={ s with heap:=h',toks:=tk }) (n:="range_iterator") st' rfl rfl (by decide) ⟨.int (lo + i),H,I1,⟨t,?_⟩,⟨rfl,rfl⟩,st',fun b hb=>(hf b hb).1⟩⟩
  rw [Int.mul_one]
 done:=by
  intro X hP hw hK hc i pins s σ H E I hf st hg
  subst hP hw hK
  obtain ⟨f0,f1,f2,f3,f4,f5⟩:=hf it (by simp)
  exact wpAny_pyNext_range_end (I.ok.hd hc) st (by have:n<=i:=hg; omega) fun h' eb=>⟨rfl,I.turned (t':=s.toks) (fun b o hb e=>eb b o hb e) f0 f1 f3 f4 f5⟩
 self:=fun _ _ _ _ _ st h=>wpAny_pyIter_rangeiter st h
end L2
namespace L2
open PySem PySem.Spec PyProof.Rows
section
variable {X:Cx} {tg:Expr}
def g2X (K:W.Frag) (tl:TE):TI:=fun σ H R=>tl σ H fun x H1=>∃ a,x = .ref a/\(∃ xs,SqL K H1 a xs)/\R (Itl K a) H1
def iTup (K:W.Frag) (tl:TE):TI:=fun σ H R=>tl σ H fun x H1=>∃ a,x = .ref a/\(∃ xs,SqT K H1 a xs)/\R (Itt K a) H1
theorem xZ {l:Expr} {tl:TE} (hl:PE X l tl):PI X tg l (g2X X.K tl):=by
 intro pins s σ H R I h
 refine thn (hl pins s σ H _ I h) fun v s1 hh=>?_
 obtain ⟨x,H1,I1,r1,q1⟩:=hh
 obtain ⟨a,e,⟨xs,hq⟩,q⟩:=q1
 subst e
 cases r1
 obtain ⟨its,rv,p,hz⟩:=I1.list hq
 refine wpAny_pyIter_list p.isList ?_
 refine ⟨s1.heap.objs.size,[s1.heap.objs.size],_,_,H1,rfl,I1.kept (t':=s1.toks) fun b o e=>Heap.get?_push_of_some _ e,s1Z a _,⟨_,Heap.get?_push_size _ rfl,rfl,rfl⟩,fun b hb=>?_,q⟩
 have e:b=s1.heap.objs.size:=by simpa using hb
 subst e
 exact I1.fpOk (Nat.le_refl _) (I1.hok.fresh (Nat.le_refl _))
theorem p0X {l:Expr} {tl:TE} (hl:PE X l tl):PI X tg l (iTup X.K tl):=by
 intro pins s σ H R I h
 refine thn (hl pins s σ H _ I h) fun v s1 hh=>?_
 obtain ⟨x,H1,I1,r1,q1⟩:=hh
 obtain ⟨a,e,⟨xs,hq⟩,q⟩:=q1
 subst e
 cases r1
 obtain ⟨its,rv,p,hz⟩:=I1.tuple hq
 refine wpAny_pyIter_tuple (show s1.heap.IsTuple a its.toArray from p) ?_
 refine ⟨s1.heap.objs.size,[s1.heap.objs.size],_,_,H1,rfl,I1.kept (t':=s1.toks) fun b o e=>Heap.get?_push_of_some _ e,t8Q a _,⟨_,Heap.get?_push_size _ rfl,rfl,rfl⟩,fun b hb=>?_,q⟩
 have e:b=s1.heap.objs.size:=by simpa using hb
 subst e
 exact I1.fpOk (Nat.le_refl _) (I1.hok.fresh (Nat.le_refl _))
theorem g7Q {pins:List (Addr × Obj)} {σ:St} {H:Hp} {s:Shared} {R:It->Hp->Prop} {E:Value->Shared->Prop} {lo hi:Int} {t u v:Tok} {tk:Nat} (I:Inv X pins σ H s) (h1:-(2 ^ 62)<=lo) (h2:lo < 2 ^ 62) (h3:-(2 ^ 62)<=hi) (h4:hi < 2 ^ 62)
  (q:R (Itr lo (hi - lo).toNat) H):wpAny (model X.prog X.w) X.A (pyIter (.ref s.heap.objs.size)) (PIE X pins σ tg R) E { s with heap:=s.heap.push { cls:=.type "range",data:=.fields #[.int lo t,.int hi u,.int 1 v] },toks:=tk }:=by
 refine wpAny_pyIter_range (IsRange.new ..) (small_one h1 h2 h3 h4) ?_
 have I1:Inv X pins σ H { s with heap:=s.heap.push { cls:=.type "range",data:=.fields #[.int lo t,.int hi u,.int 1 v] },toks:=tk }:=I.kept fun b o e=>Heap.get?_push_of_some _ e
 refine ⟨(s.heap.push { cls:=.type "range",data:=.fields #[.int lo t,.int hi u,.int 1 v] }).objs.size,[(s.heap.push { cls:=.type "range",data:=.fields #[.int lo t,.int hi u,.int 1 v] }).objs.size],_,_,H,rfl,
  I1.kept (t':=tk) fun b o e=>Heap.get?_push_of_some _ e,u8Q _ lo (hi - lo).toNat,?_,fun b hb=>?_,q⟩
 ·have e1:lo + ((0:Nat):Int) * 1=lo:=by simp
  have e2:(((hi - lo).toNat:Nat):Int) - ((0:Nat):Int)=Builtin.Range.rangeSize lo hi 1:=by rw [rangeSize_one]; split <;> omega
  show IsRangeIter _ _ (lo + ((0:Nat):Int) * 1) ((((hi - lo).toNat:Nat):Int) - ((0:Nat):Int)) 1
  rw [e1,e2]
  exact Heap.get?_push_size _ rfl
 ·have e:b=(s.heap.push { cls:=.type "range",data:=.fields #[.int lo t,.int hi u,.int 1 v] }).objs.size:=by simpa using hb
  subst e
  exact I1.fpOk (Nat.le_refl _) (I1.hok.fresh (Nat.le_refl _))
def h2X (ta:TA):TI:=fun σ H R=>ta σ H fun vs H1=>∃ j:Int,vs=[.int j] /\ -(2 ^ 62)<=j/\j < 2 ^ 62/\R (Itr 0 j.toNat) H1
def i2X (ta:TA):TI:=fun σ H R=>ta σ H fun vs H1=>∃ i j:Int,vs=[.int i,.int j]/\(-(2 ^ 62)<=i/\i < 2 ^ 62 /\ -(2 ^ 62)<=j/\j < 2 ^ 62)/\R (Itr i (j - i).toNat) H1
theorem qJ {a:Expr} {ta:TA} {p pos:Pos} (hg:Gl X "range") (hm:X.mg "range"=none) (ha:PA X [a] ta) (hs:starEach [a] X.env=[(false,eval a X.env)]:=by rfl):PI X tg (.Call (.Name "range" p) [a] [] pos) (h2X ta):=by
 intro pins s σ H R I h
 refine Call_ (wV I hg hm boot_range (PyProof.Rows.callWith_type1 (thn (ha pos pins s σ H _ I h) fun us s1 hh=>?_) hs rfl))
 obtain ⟨vs,H1,I1,r1,q1⟩:=hh
 obtain ⟨j,e,q1,q2,q⟩:=q1
 subst e
 cases r1 with
 | cons r rr =>
  cases rr
  obtain ⟨t,rfl⟩:=r
  exact call_range_1 (g7Q I1 (by omega) (by omega) q1 q2 (by simpa using q))
theorem t1Z {a b:Expr} {ta:TA} {p pos:Pos} (hg:Gl X "range") (hm:X.mg "range"=none) (ha:PA X [a,b] ta) (hs:starEach [a,b] X.env=[(false,eval a X.env),(false,eval b X.env)]:=by rfl) (hs2:starEach [b] X.env=[(false,eval b X.env)]:=by rfl) :
  PI X tg (.Call (.Name "range" p) [a,b] [] pos) (i2X ta):=by
 intro pins s σ H R I h
 refine Call_ (wV I hg hm boot_range (PyProof.Rows.callWith_type1 (thn (ha pos pins s σ H _ I h) fun us s1 hh=>?_) (by rw [hs,hs2]) (by rw [hs2]; rfl)))
 obtain ⟨vs,H1,I1,r1,q1⟩:=hh
 obtain ⟨i,j,e,⟨q1,q2,q3,q4⟩,q⟩:=q1
 subst e
 cases r1 with
 | cons r rr =>
  cases rr with
  | cons r' rr =>
   cases rr
   obtain ⟨t,rfl⟩:=r
   obtain ⟨t',rfl⟩:=r'
   exact call_range_2 (g7Q I1 q1 q2 q3 q4 q)
def tFor (wi:TI) (g:TG) (tb:TS):TS:=fun D σ H=>wi σ H fun J H1=>∃ W:Nat->Nat->St->Hp->Prop,(∃ m,W 0 m σ H1)/\∀ i m σ H,W i m σ H ->
 (J.stop i H/\D.nx σ H)\/(J.go i H/\∃ N:St->Hp->Prop,(∀ σ' H',N σ' H'->∃ m',m' < m/\W (i + 1) m' σ' H')/\∀ x H',J.yld i H x H'->g x σ H' fun σ2 H2=>tb { D with nx:=N,ct:=N,bk:=D.nx } σ2 H2)
def n2Q (fp:List Addr) (h:Heap):List (Addr × Obj):=fp.filterMap fun b=>(h.get? b).map fun o=>(b,o)
theorem kK {fp:List Addr} {h:Heap} {b:Addr} {o:Obj} (hb:b∈fp) (e:h.get? b=some o):(b,o)∈n2Q fp h:=List.mem_filterMap.mpr ⟨b,hb,by rw [e]; rfl⟩
theorem u1Z {fp:List Addr} {h:Heap} {p:Addr × Obj} (hp:p∈n2Q fp h):p.1∈fp/\h.get? p.1=some p.2:=by
 obtain ⟨b,hb,e⟩:=List.mem_filterMap.mp hp
 cases q:h.get? b with
 | none=>rw [q] at e; cases e
 | some o =>
  rw [q] at e
  have e':(b,o)=p:=Option.some.inj e
  subst e'
  exact ⟨hb,q⟩
theorem Inv.pinned {pins:List (Addr × Obj)} {σ:St} {H:Hp} {s:Shared} {fp:List Addr} (I:Inv X pins σ H s) (hf:∀ b∈fp,pO X pins H b) (ho:∀ b∈fp,∃ o,s.heap.get? b=some o/\∀ v,o.data ≠ .cell v):Inv X (pins++n2Q fp s.heap) σ H s:=
 I.pins_of fun p hp=>(List.mem_append.mp hp).elim (fun z=>I.pin p (List.mem_append_right _ z)) fun z=>by
  obtain ⟨hb,e⟩:=u1Z z
  obtain ⟨f0,f1,f2,_⟩:=hf p.1 hb
  obtain ⟨o,e',d⟩:=ho p.1 hb
  rw [e] at e'; cases e'
  exact ⟨e,f0,f1,f2,d⟩
theorem Inv.unpinned {pins pl:List (Addr × Obj)} {σ:St} {H:Hp} {s:Shared} (I:Inv X (pins++pl) σ H s):Inv X pins σ H s:=I.pins_of fun p hp=>I.pin p (List.mem_append_right _ (List.mem_append_left _ hp))
theorem uZ {iter:Expr} {body:List Stmt} {wi:TI} {g:TG} {tb:TS} {pos:Pos} (hp:PassesOwn (model X.prog X.w) X.A X.env X.xe) (hc:X.calm=true) (hi:PI X tg iter wi) (hg:PG X tg g) (hb:PSs X body tb)
  (hs:∀ x,foldedSetIterable iter X.env x=pure x:=by intro _; rfl):PS X (.For tg iter body [] pos) (tFor wi g tb):=by
 intro pins s σ H D I h
 refine wpAny_For (thn (hi pins s σ H _ I h) fun v s1 h1=>thn h1 fun itv s2 h2=>?_) hs
 obtain ⟨it,fp,tn,J,H2,e,I2,T,st2,f2,W,⟨m0,w0⟩,turn⟩:=h2
 subst e
 have stat:∀ {H':Hp},(∀ b∈fp,H' b=none)->∀ b∈fp,pO X pins H' b:=fun hn b hb=>⟨hn b hb,(f2 b hb).2⟩
 refine codeAny_forLoop_any (fun n s'=>∃ i σ' H',Inv X pins σ' H' s'/\tn i s'.heap/\(∀ b∈fp,H' b=none)/\W i n σ' H') ?_ m0 ⟨0,σ,H2,I2,st2,fun b hb=>(f2 b hb).1,w0⟩
 rintro n s3 ⟨i,σ3,H3,I3,st3,fr3,w3⟩
 rcases turn i n σ3 H3 w3 with ⟨stop,qn⟩ | ⟨go,N,hN,step⟩
 ·refine wpAny_passesOwn hp (thn (T.done X rfl rfl rfl hc i pins s3 σ3 H3 X.xe I3 (stat fr3) st3 stop) fun r s4 hh=>?_)
  obtain ⟨hr,I4⟩:=hh
  subst hr
  exact wpAny_execs_nil ⟨σ3,H3,I4,qn⟩
 ·refine wpAny_passesOwn hp (thn (T.item X rfl rfl rfl hc i pins s3 σ3 H3 X.xe I3 (stat fr3) st3 go) fun r s4 hh=>?_)
  obtain ⟨u,hr,h4⟩:=hh
  subst hr
  refine wpAny_passesOwn hp (thn h4 fun _ s5 hh=>?_)
  obtain ⟨x,H5,I5,r5,y5,st5,fr5⟩:=hh
  have I5':=I5.pinned (stat fr5) (T.obj _ _ st5)
  refine wpAny_passesOwn hp (thn (hg _ s5 σ3 H5 x u _ I5' r5 (step x H5 y5)) fun _ s6 hh=>?_)
  obtain ⟨σ6,H6,I6,q6⟩:=hh
  refine wpAny_passesOwn hp (thn (hb _ s6 σ6 H6 _ I6 q6) fun f s7 q7=>?_)
  have again:∀ {σ7:St} {H7:Hp},Inv X (pins++n2Q fp s5.heap) σ7 H7 s7->N σ7 H7->∃ m,m < n/\∃ i σ' H',Inv X pins σ' H' s7/\tn i s7.heap/\(∀ b∈fp,H' b=none)/\W i m σ' H':=fun {σ7 H7} I7 n7=>by
   obtain ⟨m',hm,w7⟩:=hN σ7 H7 n7
   refine ⟨m',hm,i + 1,σ7,H7,I7.unpinned,T.keep _ _ _ st5 fun b hb o e=>(I7.pin (b,o) (List.mem_append_right _ (List.mem_append_right _ (kK hb e)))).1,fun b hb=>?_,w7⟩
   obtain ⟨o,e,d⟩:=T.obj _ _ st5 b hb
   exact (I7.pin (b,o) (List.mem_append_right _ (List.mem_append_right _ (kK hb e)))).2.1
  cases f with
  | next=>obtain ⟨σ7,H7,I7,n7⟩:=q7; exact again I7 n7
  | cont=>obtain ⟨σ7,H7,I7,n7⟩:=q7; exact again I7 n7
  | brk=>obtain ⟨σ7,H7,I7,q7⟩:=q7; exact ⟨σ7,H7,I7.unpinned,q7⟩
  | ret v=>obtain ⟨x7,σ7,H7,I7,r7,q7⟩:=q7; exact ⟨x7,σ7,H7,I7.unpinned,r7,q7⟩
end
theorem kX {K:W.Frag} {a:Addr} {xs:List V} {g:TG} {tb:TS} {D:Ends} {σ:St} {H:Hp} (Pv:Nat->St->Hp->Prop) (h0:Pv 0 σ H) (hl:∀ i σ H,i<=xs.length->Pv i σ H->SqL K H a xs)
  (hs:∀ i x σ H,xs[i]?=some x->Pv i σ H->g x σ H fun σ2 H2=>tb { D with nx:=Pv (i + 1),ct:=Pv (i + 1),bk:=D.nx } σ2 H2) (hd:∀ σ H,Pv xs.length σ H->D.nx σ H) :
  ∃ W:Nat->Nat->St->Hp->Prop,(∃ m,W 0 m σ H)/\∀ i m σ H,W i m σ H ->
   ((Itl K a).stop i H/\D.nx σ H)\/((Itl K a).go i H/\∃ N:St->Hp->Prop,(∀ σ' H',N σ' H'->∃ m',m' < m/\W (i + 1) m' σ' H')/\∀ x H',(Itl K a).yld i H x H'->g x σ H' fun σ2 H2=>tb { D with nx:=N,ct:=N,bk:=D.nx } σ2 H2):=by
 refine ⟨fun i m σ H=>m=xs.length - i/\i<=xs.length/\Pv i σ H,⟨xs.length,by simp,Nat.zero_le _,h0⟩,?_⟩
 rintro i m σ H ⟨rfl,hi,p⟩
 have q:=hl i σ H hi p
 by_cases hlt:i < xs.length
 ·refine .inr ⟨⟨xs,xs[i],q,by simp [hlt]⟩,Pv (i + 1),fun σ' H' p'=>⟨xs.length - (i + 1),by omega,rfl,hlt,p'⟩,fun x H' y=>?_⟩
  obtain ⟨e,y⟩:=y
  subst e
  exact hs i x σ _ (y xs q) p
 ·have e:i=xs.length:=by omega
  subst e
  exact .inl ⟨⟨xs,q,Nat.le_refl _⟩,hd σ H p⟩
theorem o7Z {K:W.Frag} {a:Addr} {xs:List V} {g:TG} {tb:TS} {D:Ends} {σ:St} {H:Hp} (Pv:Nat->St->Hp->Prop) (h0:Pv 0 σ H) (hl:∀ i σ H,i<=xs.length->Pv i σ H->SqT K H a xs)
  (hs:∀ i x σ H,xs[i]?=some x->Pv i σ H->g x σ H fun σ2 H2=>tb { D with nx:=Pv (i + 1),ct:=Pv (i + 1),bk:=D.nx } σ2 H2) (hd:∀ σ H,Pv xs.length σ H->D.nx σ H) :
  ∃ W:Nat->Nat->St->Hp->Prop,(∃ m,W 0 m σ H)/\∀ i m σ H,W i m σ H ->
   ((Itt K a).stop i H/\D.nx σ H)\/((Itt K a).go i H/\∃ N:St->Hp->Prop,(∀ σ' H',N σ' H'->∃ m',m' < m/\W (i + 1) m' σ' H')/\∀ x H',(Itt K a).yld i H x H'->g x σ H' fun σ2 H2=>tb { D with nx:=N,ct:=N,bk:=D.nx } σ2 H2):=by
 refine ⟨fun i m σ H=>m=xs.length - i/\i<=xs.length/\Pv i σ H,⟨xs.length,by simp,Nat.zero_le _,h0⟩,?_⟩
 rintro i m σ H ⟨rfl,hi,p⟩
 have q:=hl i σ H hi p
 by_cases hlt:i < xs.length
 ·refine .inr ⟨⟨xs,xs[i],q,by simp [hlt]⟩,Pv (i + 1),fun σ' H' p'=>⟨xs.length - (i + 1),by omega,rfl,hlt,p'⟩,fun x H' y=>?_⟩
  obtain ⟨e,y⟩:=y
  subst e
  exact hs i x σ _ (y xs q) p
 ·have e:i=xs.length:=by omega
  subst e
  exact .inl ⟨⟨xs,q,Nat.le_refl _⟩,hd σ H p⟩
theorem oW {lo:Int} {n:Nat} {g:TG} {tb:TS} {D:Ends} {σ:St} {H:Hp} (Pv:Nat->St->Hp->Prop) (h0:Pv 0 σ H)
  (hs:∀ i σ H,i < n->Pv i σ H->g (.int (lo + i)) σ H fun σ2 H2=>tb { D with nx:=Pv (i + 1),ct:=Pv (i + 1),bk:=D.nx } σ2 H2) (hd:∀ σ H,Pv n σ H->D.nx σ H) :
  ∃ W:Nat->Nat->St->Hp->Prop,(∃ m,W 0 m σ H)/\∀ i m σ H,W i m σ H ->
   ((Itr lo n).stop i H/\D.nx σ H)\/((Itr lo n).go i H/\∃ N:St->Hp->Prop,(∀ σ' H',N σ' H'->∃ m',m' < m/\W (i + 1) m' σ' H')/\∀ x H',(Itr lo n).yld i H x H'->g x σ H' fun σ2 H2=>tb { D with nx:=N,ct:=N,bk:=D.nx } σ2 H2):=by
 refine ⟨fun i m σ H=>m=n - i/\i<=n/\Pv i σ H,⟨n,by simp,Nat.zero_le _,h0⟩,?_⟩
 rintro i m σ H ⟨rfl,hi,p⟩
 by_cases hlt:i < n
 ·refine .inr ⟨hlt,Pv (i + 1),fun σ' H' p'=>⟨n - (i + 1),by omega,rfl,hlt,p'⟩,fun x H' y=>?_⟩
  obtain ⟨e,y⟩:=y
  subst e y
  exact hs i σ _ hlt p
 ·have e:i=n:=by omega
  subst e
  exact .inl ⟨Nat.le_refl _,hd σ H p⟩
end L2
namespace L2
open PySem PySem.Spec PyProof.Rows
abbrev R2:=V->V->Hp->VK->Prop
def OpR (X:Cx) (f:Value->Value->Sem Value) (r:R2):Prop:=
 ∀ (pins:List (Addr × Obj)) (s:Shared) (σ:St) (H:Hp) (x y:V) (v u:Value) (Q:VK),Inv X pins σ H s->qZ x v->qZ y u->r x y H Q ->
  wpAny (model X.prog X.w) X.A (f v u) (EP X pins σ Q) X.xe s
def UnR (X:Cx) (f:Value->Sem Value) (r:V->Hp->VK->Prop):Prop:=
 ∀ (pins:List (Addr × Obj)) (s:Shared) (σ:St) (H:Hp) (x:V) (v:Value) (Q:VK),Inv X pins σ H s->qZ x v->r x H Q ->
  wpAny (model X.prog X.w) X.A (f v) (EP X pins σ Q) X.xe s
def yV (X:Cx) (f:Value) (r:List V->Hp->VK->Prop):Prop:=
 ∀ (pins:List (Addr × Obj)) (s:Shared) (σ:St) (H:Hp) (xs:List V) (us:List Value) (Q:VK),Inv X pins σ H s->rZ xs us->r xs H Q ->
  wpAny (model X.prog X.w) X.A (call f us) (EP X pins σ Q) X.xe s
def tOp (r:R2) (ta tb:TE):TE:=fun σ H Q=>ta σ H fun x H1=>tb σ H1 fun y H2=>r x y H2 Q
def tUn (r:V->Hp->VK->Prop) (ta:TE):TE:=fun σ H Q=>ta σ H fun x H1=>r x H1 Q
def rI (C:Int->Int->Prop) (g:Int->Int->V):R2:=fun x y H Q=>∃ i j,x = .int i/\y = .int j/\C i j/\Q (g i j) H
def rI0 (g:Int->Int->V):R2:=fun x y H Q=>∃ i j,x = .int i/\y = .int j/\Q (g i j) H
def rU (g:Int->V):V->Hp->VK->Prop:=fun x H Q=>∃ i,x = .int i/\Q (g i) H
section
variable {X:Cx} {a b c:Expr} {ta tb tc:TE} {pos:Pos}
theorem binT (ha:PE X a ta) (hb:PE X b tb) {pins:List (Addr × Obj)} {s:Shared} {σ:St} {H:Hp} {R:V->V->Hp->Prop} (I:Inv X pins σ H s)
  (h:ta σ H fun x H1=>tb σ H1 fun y H2=>R x y H2) {Q:Value->Shared->Prop} {f:Value->Value->Sem Value}
  (hf:∀ v u s2 x y H2,Inv X pins σ H2 s2->qZ x v->qZ y u->R x y H2->wpAny (model X.prog X.w) X.A (f v u) Q X.xe s2) :
  wpAny (model X.prog X.w) X.A (eval a X.env) (fun v s₁=>wpAny (model X.prog X.w) X.A (eval b X.env) (fun u s₂=>wpAny (model X.prog X.w) X.A (f v u) Q X.xe s₂) X.xe s₁) X.xe s:=by
 refine thn (ha pins s σ H _ I h) fun v s1 hh=>?_
 obtain ⟨x,H1,I1,r1,q1⟩:=hh
 refine thn (hb pins s1 σ H1 _ I1 q1) fun u s2 hh=>?_
 obtain ⟨y,H2,I2,r2,q2⟩:=hh
 exact hf v u s2 x y H2 I2 r1 r2 q2
theorem lQ {op:Operator} {r:R2} (ho:OpR X (binaryOp op) r) (ha:PE X a ta) (hb:PE X b tb):PE X (.BinOp a op b pos) (tOp r ta tb):=by
 intro pins s σ H Q I h
 exact wpAny_BinOp (binT ha hb I h fun v u s2 x y H2 I2 rx ry q=>ho pins s2 σ H2 x y v u Q I2 rx ry q)
theorem o2Q {op:UnaryOp} {r:V->Hp->VK->Prop} (ho:UnR X (unaryOp op) r) (ha:PE X a ta):PE X (.UnaryOp op a pos) (tUn r ta):=by
 intro pins s σ H Q I h
 exact UnaryOp_ (thn (ha pins s σ H _ I h) fun v s1 ⟨x,H1,I1,r1,q1⟩=>ho pins s1 σ H1 x v Q I1 r1 q1)
theorem opI {f:Value->Value->Sem Value} {C:Int->Int->Prop} {g:Int->Int->Int}
  (rule:∀ (i j:Int) (t u:Tok) (s:Shared) (Q:Value->Shared->Prop) (E:Value->Shared->Prop),C i j->Q (.int (g i j) s.toks) { s with toks:=s.toks + 1 }->wpAny (model X.prog X.w) X.A (f (.int i t) (.int j u)) Q E s) :
  OpR X f (rI C fun i j=>.int (g i j)):=by
 intro pins s σ H x y v u Q I rx ry h
 obtain ⟨i,j,rfl,rfl,hc,q⟩:=h
 obtain ⟨t,rfl⟩:=rx
 obtain ⟨t',rfl⟩:=ry
 exact rule i j t t' s _ _ hc ⟨.int (g i j),H,I.tok _,⟨_,rfl⟩,q⟩
theorem opI0 {f:Value->Value->Sem Value} {g:Int->Int->Int}
  (rule:∀ (i j:Int) (t u:Tok) (s:Shared) (Q:Value->Shared->Prop) (E:Value->Shared->Prop),Q (.int (g i j) s.toks) { s with toks:=s.toks + 1 }->wpAny (model X.prog X.w) X.A (f (.int i t) (.int j u)) Q E s) :
  OpR X f (rI0 fun i j=>.int (g i j)):=by
 intro pins s σ H x y v u Q I rx ry h
 obtain ⟨i,j,rfl,rfl,q⟩:=h
 obtain ⟨t,rfl⟩:=rx
 obtain ⟨t',rfl⟩:=ry
 exact rule i j t t' s _ _ ⟨.int (g i j),H,I.tok _,⟨_,rfl⟩,q⟩
theorem opB0 {f:Value->Value->Sem Value} {g:Int->Int->Bool}
  (rule:∀ (i j:Int) (t u:Tok) (s:Shared) (Q:Value->Shared->Prop) (E:Value->Shared->Prop),Q (.bool (g i j)) s->wpAny (model X.prog X.w) X.A (f (.int i t) (.int j u)) Q E s) :
  OpR X f (rI0 fun i j=>.bl (g i j)):=by
 intro pins s σ H x y v u Q I rx ry h
 obtain ⟨i,j,rfl,rfl,q⟩:=h
 obtain ⟨t,rfl⟩:=rx
 obtain ⟨t',rfl⟩:=ry
 exact rule i j t t' s _ _ ⟨.bl (g i j),H,I,rfl,q⟩
def CDiv (i j:Int):Prop:=0 < j/\j < 1073741824
def CPow (i j:Int):Prop:=0<=j/\j<=1000000/\i.natAbs < 2 ^ 64
def CMul (i j:Int):Prop:=(-(2 ^ 64) < i/\i < 2 ^ 64)\/(-(2 ^ 64) < j/\j < 2 ^ 64)
theorem CMul.ok {i j:Int} (h:CMul i j):IntMulOk i j:=by
 rcases h with ⟨h1,h2⟩ | ⟨h1,h2⟩
 ·exact .of_left (intBits_le_64 h1 h2)
 ·exact .of_right (intBits_le_64 h1 h2)
theorem v8Q (k:Nat):(0:Int)<=2 ^ k:=by
 rw [two_pow_cast]
 exact Int.natCast_nonneg _
theorem hZ:OpR X (binaryOp .Add) (rI0 fun i j=>.int (i + j)):=opI0 fun _ _ _ _ _ _ _ q=>add_int q
theorem eJ:OpR X (binaryOp .Sub) (rI0 fun i j=>.int (i - j)):=opI0 fun _ _ _ _ _ _ _ q=>sub_int q
theorem aJ:OpR X (binaryOp .Mult) (rI CMul fun i j=>.int (i * j)):=opI fun _ _ _ _ _ _ _ hc q=>mul_int q hc.ok
theorem nX:OpR X (binaryOp .FloorDiv) (rI CDiv fun i j=>.int (i / j)):=opI fun i j _ _ _ _ _ hc q=>by
 have h1:(0:Int) < j:=hc.1
 have h2:j < 1073741824:=hc.2
 exact floordiv_int (by omega) (by rw [Int.fdiv_eq_ediv_of_nonneg i (by omega)]; exact q) (.inl (PyProof.noPylong_small (by omega)))
theorem gZ:OpR X (binaryOp .Mod) (rI (fun _ j=>0 < j) fun i j=>.int (i % j)):=opI fun i j _ _ _ _ _ hc q=>by
 have h1:(0:Int) < j:=hc
 exact mod_int' (by omega) (by rw [Int.fmod_eq_emod_of_nonneg i (by omega)]; exact q)
theorem q0X:OpR X (binaryOp .Pow) (rI CPow fun i j=>.int (i ^ j.toNat)):=opI fun _ _ _ _ _ _ _ hc q=>pow_int_small hc.1 hc.2.1 hc.2.2 q
theorem r0X:OpR X (binaryOp .RShift) (rI (fun _ j=>0<=j) fun i j=>.int (i / 2 ^ j.toNat)):=opI fun i j _ _ _ _ _ hc q =>
 rshift_int hc (by rw [Int.fdiv_eq_ediv_of_nonneg i (v8Q _)]; exact q)
theorem w8Q:OpR X (binaryOp .BitAnd) (rI0 fun i j=>.int (Builtin.bitAnd i j)):=opI0 fun _ _ _ _ _ _ _ q=>and_int q
theorem j2X:OpR X (binaryOp .BitOr) (rI0 fun i j=>.int (Builtin.bitOr i j)):=opI0 fun _ _ _ _ _ _ _ q=>or_int q
theorem unI {f:Value->Sem Value} {g:Int->Int}
  (rule:∀ (i:Int) (t:Tok) (s:Shared) (Q:Value->Shared->Prop) (E:Value->Shared->Prop),Q (.int (g i) s.toks) { s with toks:=s.toks + 1 }->wpAny (model X.prog X.w) X.A (f (.int i t)) Q E s) :
  UnR X f (rU fun i=>.int (g i)):=by
 intro pins s σ H x v Q I rx h
 obtain ⟨i,rfl,q⟩:=h
 obtain ⟨t,rfl⟩:=rx
 exact rule i t s _ _ ⟨.int (g i),H,I.tok _,⟨_,rfl⟩,q⟩
theorem qO:UnR X (unaryOp .USub) (rU fun i=>.int (-i)):=unI fun _ _ _ _ _ q=>neg_int q
end
def scal:V->V->Bool
 | .non,.non=>true | .non,.int _=>true | .int _,.non=>true | .non,.bl _=>true | .bl _,.non=>true | .non,.str _=>true | .str _,.non=>true
 | .int _,.int _=>true | .bl _,.bl _=>true | .str _,.str _=>true | .byt _,.byt _=>true
 | .int _,.str _=>true | .str _,.int _=>true | .bl _,.str _=>true | .str _,.bl _=>true
 | _,_=>false
def rEq:R2:=fun x y H Q=>scal x y=true/\Q (.bl (decide (x=y))) H
def rNe:R2:=fun x y H Q=>scal x y=true/\Q (.bl (!decide (x=y))) H
theorem gX {i j:Int}:decide (V.int i=V.int j)=(i == j):=by
 rw [Bool.eq_iff_iff]
 simp
theorem a4Z {i j:Bool}:decide (V.bl i=V.bl j)=(i == j):=by
 rw [Bool.eq_iff_iff]
 simp
theorem dec_str {i j:Str}:decide (V.str i=V.str j)=(i == j):=by
 rw [Bool.eq_iff_iff]
 simp
theorem h0Z {i j:Array UInt8}:decide (V.byt i=V.byt j)=(i.toList == j.toList):=by
 rw [Bool.eq_iff_iff]
 cases i
 cases j
 simp
section
variable {X:Cx} {a b c:Expr} {ta tb tc:TE} {pos:Pos}
theorem yZ {pins:List (Addr × Obj)} {σ:St} {H:Hp} {s:Shared} {Q:VK} {k k':Bool} (I:Inv X pins σ H s) (q:Q (.bl k) H) (e:k=k'):EP X pins σ Q (.bool k') s:=by
 subst e
 exact ⟨.bl k,H,I,rfl,q⟩
theorem aZ:OpR X (compareOp .Eq) rEq:=by
 intro pins s σ H x y v u Q I rx ry h
 obtain ⟨hs,q⟩:=h
 cases x with
 | non =>
  cases rx
  cases y with
  | non=>cases ry; exact PySem.EqNone.eq_none_none (yZ I q (by simp))
  | bl j=>cases ry; exact PySem.EqNone.eq_none_bool (yZ I q (by simp))
  | int j=>obtain ⟨t',rfl⟩:=ry; exact PySem.EqNone.eq_none_int (yZ I q (by simp))
  | str j=>obtain ⟨t',rfl⟩:=ry; exact PySem.EqNone.eq_none_str (yZ I q (by simp))
  | _=>exact absurd (show false=true from hs) Bool.false_ne_true
 | bl i =>
  cases rx
  cases y with
  | non=>cases ry; exact PySem.EqNone.eq_bool_none (yZ I q (by simp))
  | bl j=>cases ry; exact eq_bool (yZ I q a4Z)
  | str j=>obtain ⟨t',rfl⟩:=ry; exact PySem.EqMixed.eq_bool_str (yZ I q (by simp))
  | _=>exact absurd (show false=true from hs) Bool.false_ne_true
 | int i =>
  obtain ⟨t,rfl⟩:=rx
  cases y with
  | non=>cases ry; exact PySem.EqNone.eq_int_none (yZ I q (by simp))
  | int j=>obtain ⟨t',rfl⟩:=ry; exact eq_int (yZ I q gX)
  | str j=>obtain ⟨t',rfl⟩:=ry; exact PySem.EqMixed.eq_int_str (yZ I q (by simp))
  | _=>exact absurd (show false=true from hs) Bool.false_ne_true
 | str i =>
  obtain ⟨t,rfl⟩:=rx
  cases y with
  | non=>cases ry; exact PySem.EqNone.eq_str_none (yZ I q (by simp))
  | bl j=>cases ry; exact PySem.EqMixed.eq_str_bool (yZ I q (by simp))
  | int j=>obtain ⟨t',rfl⟩:=ry; exact PySem.EqMixed.eq_str_int (yZ I q (by simp))
  | str j=>obtain ⟨t',rfl⟩:=ry; exact eq_str (yZ I q dec_str)
  | _=>exact absurd (show false=true from hs) Bool.false_ne_true
 | byt i =>
  obtain ⟨t,rfl⟩:=rx
  cases y with
  | byt j=>obtain ⟨t',rfl⟩:=ry; exact W.eq_bytes (yZ I q h0Z)
  | _=>exact absurd (show false=true from hs) Bool.false_ne_true
 | _=>cases y <;> exact absurd (show false=true from hs) Bool.false_ne_true
theorem b0Q:OpR X (compareOp .NotEq) rNe:=by
 intro pins s σ H x y v u Q I rx ry h
 obtain ⟨hs,q⟩:=h
 cases x with
 | non =>
  cases rx
  cases y with
  | non=>cases ry; exact PySem.EqNone.ne_none_none (yZ I q (by simp))
  | bl j=>cases ry; exact PySem.EqNone.ne_none_bool (yZ I q (by simp))
  | int j=>obtain ⟨t',rfl⟩:=ry; exact PySem.EqNone.ne_none_int (yZ I q (by simp))
  | str j=>obtain ⟨t',rfl⟩:=ry; exact PySem.EqNone.ne_none_str (yZ I q (by simp))
  | _=>exact absurd (show false=true from hs) Bool.false_ne_true
 | bl i =>
  cases rx
  cases y with
  | non=>cases ry; exact PySem.EqNone.ne_bool_none (yZ I q (by simp))
  | bl j=>cases ry; exact ne_bool (yZ I q (congrArg not a4Z))
  | str j=>obtain ⟨t',rfl⟩:=ry; exact PySem.EqMixed.ne_bool_str (yZ I q (by simp))
  | _=>exact absurd (show false=true from hs) Bool.false_ne_true
 | int i =>
  obtain ⟨t,rfl⟩:=rx
  cases y with
  | non=>cases ry; exact PySem.EqNone.ne_int_none (yZ I q (by simp))
  | int j=>obtain ⟨t',rfl⟩:=ry; exact ne_int (yZ I q (congrArg not gX))
  | str j=>obtain ⟨t',rfl⟩:=ry; exact PySem.EqMixed.ne_int_str (yZ I q (by simp))
  | _=>exact absurd (show false=true from hs) Bool.false_ne_true
 | str i =>
  obtain ⟨t,rfl⟩:=rx
  cases y with
  | non=>cases ry; exact PySem.EqNone.ne_str_none (yZ I q (by simp))
  | bl j=>cases ry; exact PySem.EqMixed.ne_str_bool (yZ I q (by simp))
  | int j=>obtain ⟨t',rfl⟩:=ry; exact PySem.EqMixed.ne_str_int (yZ I q (by simp))
  | str j=>obtain ⟨t',rfl⟩:=ry; exact ne_str (yZ I q (congrArg not dec_str))
  | _=>exact absurd (show false=true from hs) Bool.false_ne_true
 | byt i =>
  obtain ⟨t,rfl⟩:=rx
  cases y with
  | byt j=>obtain ⟨t',rfl⟩:=ry; exact W.ne_bytes (yZ I q (congrArg not h0Z))
  | _=>exact absurd (show false=true from hs) Bool.false_ne_true
 | _=>cases y <;> exact absurd (show false=true from hs) Bool.false_ne_true
theorem q4Q:OpR X (compareOp .Lt) (rI0 fun i j=>.bl (decide (i < j))):=opB0 fun _ _ _ _ _ _ _ q=>lt_int q
theorem r4Q:OpR X (compareOp .LtE) (rI0 fun i j=>.bl (decide (i<=j))):=opB0 fun _ _ _ _ _ _ _ q=>le_int q
theorem i0Z:OpR X (compareOp .Gt) (rI0 fun i j=>.bl (decide (j < i))):=opB0 fun _ _ _ _ _ _ _ q=>gt_int q
theorem b4Z:OpR X (compareOp .GtE) (rI0 fun i j=>.bl (decide (j<=i))):=opB0 fun _ _ _ _ _ _ _ q=>ge_int q
theorem nQ (b:Expr) {op:CmpOp} (h:op ≠ .In:=by decide) (h2:op ≠ .NotIn:=by decide):behindInMarks op b=false:=by
 have e1:(op == CmpOp.In)=false:=by cases op <;> first | rfl | exact absurd rfl h
 have e2:(op == CmpOp.NotIn)=false:=by cases op <;> first | rfl | exact absurd rfl h2
 cases b <;> simp [behindInMarks,e1,e2]
theorem lZ {op:CmpOp} {r:R2} (ho:OpR X (compareOp op) r) (ha:PE X a ta) (hb:PE X b tb) (hm:behindInMarks op b=false):PE X (.Compare a [op] [b] pos) (tOp r ta tb):=by
 intro pins s σ H Q I h
 exact wpAny_Compare1 (binT ha hb I h fun v u s2 x y H2 I2 rx ry q=>ho pins s2 σ H2 x y v u Q I2 rx ry q) hm
def t9Z (t:TE):TT:=fun σ H Q=>t σ H fun x H'=>∃ k,x = .bl k/\Q k H'
theorem rQ {op:CmpOp} {r:R2} (ho:OpR X (compareOp op) r) (ha:PE X a ta) (hb:PE X b tb) (hm:behindInMarks op b=false):PT X (.Compare a [op] [b] pos) (t9Z (tOp r ta tb)):=by
 intro pins s σ H Q I h
 refine wpAny_isTrue_Compare1 (thn (ha pins s σ H _ I h) fun v s1 ⟨x,H1,I1,r1,q1⟩=>thn (hb pins s1 σ H1 _ I1 q1) fun u s2 ⟨y,H2,I2,r2,q2⟩ =>
  thn (ho pins s2 σ H2 x y v u _ I2 r1 r2 q2) fun c s3 ⟨z,H3,I3,r3,k,e,q3⟩=>?_) hm
 subst e
 cases r3
 exact wpAny_truthy_bool ⟨H3,I3,q3⟩
def s0X (r r':R2) (ta tb tc:TE):TE:=fun σ H Q=>ta σ H fun x H1=>tb σ H1 fun y H2=>r x y H2 fun z H3=>∃ k,z = .bl k /\
 (if k=true then tc σ H3 fun w' H4=>r' y w' H4 Q else Q (.bl false) H3)
theorem c4Z {op op':CmpOp} {r r':R2} (ho:OpR X (compareOp op) r) (ho':OpR X (compareOp op') r') (ha:PE X a ta) (hb:PE X b tb) (hc:PE X c tc)
  (hm:lastMarks [op,op'] [b,c]=false:=by with_unfolding_all rfl):PT X (.Compare a [op,op'] [b,c] pos) (t9Z (s0X r r' ta tb tc)):=by
 intro pins s σ H Q I h
 refine isTrue_chain (thn (ha pins s σ H _ I h) fun v s1 ⟨x,H1,I1,r1,q1⟩=>test_link (thn (hb pins s1 σ H1 _ I1 q1) fun u s2 ⟨y,H2,I2,r2,q2⟩ =>
  thn (ho pins s2 σ H2 x y v u _ I2 r1 r2 q2) fun d s3 ⟨z,H3,I3,r3,k,e,q3⟩=>?_)) hm
 subst e
 cases r3
 refine wpAny_truthy_bool ?_
 cases k with
 | false =>
  obtain ⟨k',e',q'⟩:=q3
  cases e'
  exact ite_ff ⟨H3,I3,q'⟩
 | true =>
  refine ite_tt (test_last (thn (hc pins s3 σ H3 _ I3 q3) fun w' s4 ⟨z',H4,I4,r4,q4⟩=>thn (ho' pins s4 σ H4 y z' u w' _ I4 r2 r4 q4) fun d' s5 ⟨z2,H5,I5,r5,k2,e2,q5⟩=>?_))
  subst e2
  cases r5
  exact wpAny_truthy_bool ⟨H5,I5,q5⟩
theorem x8Q:(sizeLine:Nat) < 2 ^ 63:=by rw [sizeLine_eq]; decide
theorem c0Q {x:V} {us:List Value} (r:rZ [x] us):∃ u,us=[u]/\qZ x u:=by
 cases r with
 | cons r1 r2=>cases r2; exact ⟨_,rfl,r1⟩
theorem p2Q {x y:V} {us:List Value} (r:rZ [x,y] us):∃ u w',us=[u,w']/\qZ x u/\qZ y w':=by
 cases r with
 | cons r1 r2 =>
  cases r2 with
  | cons r3 r4=>cases r4; exact ⟨_,_,rfl,r1,r3⟩
theorem d4Z:yV X (.builtin "abs") (fun xs H Q=>∃ i,xs=[.int i]/\Q (.int (if i < 0 then -i else i)) H):=by
 intro pins s σ H xs us Q I r h
 obtain ⟨i,rfl,q⟩:=h
 obtain ⟨u,rfl,t,rfl⟩:=c0Q r
 exact call_abs_int fun u tk=>⟨.int (if i < 0 then -i else i),H,I.tok _,⟨_,rfl⟩,q⟩
theorem v1Z (hc:X.calm=true):yV X (.builtin "max") (fun xs H Q=>∃ i j,xs=[.int i,.int j]/\Q (.int (if j > i then j else i)) H):=by
 intro pins s σ H xs us Q I r h
 obtain ⟨i,j,rfl,q⟩:=h
 obtain ⟨u,w',rfl,⟨t,rfl⟩,⟨t',rfl⟩⟩:=p2Q r
 refine max_two_ints (I.ok.hd hc) fun h' tk k=>⟨_,H,I.kept k,?_,q⟩
 by_cases hj:j > i
 ·rw [if_pos hj,if_pos hj]; exact ⟨_,rfl⟩
 ·rw [if_neg hj,if_neg hj]; exact ⟨_,rfl⟩
theorem s4Q (hc:X.calm=true):yV X (.builtin "min") (fun xs H Q=>∃ i j,xs=[.int i,.int j]/\Q (.int (if j < i then j else i)) H):=by
 intro pins s σ H xs us Q I r h
 obtain ⟨i,j,rfl,q⟩:=h
 obtain ⟨u,w',rfl,⟨t,rfl⟩,⟨t',rfl⟩⟩:=p2Q r
 refine min_two_ints (I.ok.hd hc) fun h' tk k=>⟨_,H,I.kept k,?_,q⟩
 by_cases hj:j < i
 ·rw [if_pos hj,if_pos hj]; exact ⟨_,rfl⟩
 ·rw [if_neg hj,if_neg hj]; exact ⟨_,rfl⟩
end
end L2
namespace L2
open PySem PySem.Spec PyProof.Rows
structure ObjM (h:Heap) (x dx C:Addr) (mA:Str->Option Value):Prop where
 obj:h.get? x=some (W.instObj C dx)
 ns:h.Ns1 dx mA
 ne:dx≠x
theorem w1Z {h:Heap} {dx:Addr} {mA:Str->Option Value} (n:h.Ns1 dx mA):∃ od,h.get? dx=some od/\∀ name,W.lookIn name od=some (mA name):=by
 obtain ⟨o,es,ep,ho,hd,hk,_,hm⟩:=n
 refine ⟨o,ho,fun name=>?_⟩
 have e:=hm name
 unfold nsFind findBy at e
 rw [<-Array.find?_toList] at e
 unfold W.lookIn
 rw [hd]
 dsimp only
 split
 ·rename_i y q
  rw [q] at e
  exact congrArg some e
 ·rename_i q
  rw [q] at e
  have a:es.toList.any (·.refKey)=false:=by
   rw [List.any_eq_false]
   intro y hy
   obtain ⟨z,t,hkey⟩:=hk y (Array.mem_toList_iff.mp hy)
   simp [DictEntry.refKey,hkey]
  have a':¬ es.toList.any (·.refKey)=true:=by rw [a]; exact Bool.false_ne_true
  rw [if_neg a']
  exact congrArg some e
theorem ObjM.look {h:Heap} {x dx C:Addr} {mA:Str->Option Value} (I:ObjM h x dx C mA):∃ od,W.InstAt h x (W.instObj C dx) C (some od)/\∀ name,W.lookIn name od=some (mA name):=
 let ⟨od,ho,hl⟩:=w1Z I.ns
 ⟨od,⟨I.obj,rfl,rfl,ho⟩,hl⟩
section
variable {prog:Program} {w:World} {A:Around} {E:Value->Shared->Prop} {s:Shared} {K:W.Frag} {x dx C f:Addr} {mA:Str->Option Value} {name:Str} {v:Value}
theorem p7Z {expr:Bool} {Q:Value->Shared->Prop} (X:K.In s.heap) (I:ObjM s.heap x dx C mA) (hg:W.plainGet K C name=true) (hh:W.hasDictIn K C=true)
  (ha:W.findIn K (.ref C) name=some none) (hv:mA name=some v) (hv':W.handedIn v=true) (h:Q v { s with toks:=s.toks + 1 }) :
  wpAny (model prog w) A (getAttr (.ref x) name expr) Q E s:=by
 obtain ⟨od,J,hl⟩:=I.look
 exact W.get_value X J (W.plainGet_of hg).1 (W.findObj_own hh ha rfl (by rw [hl,hv])) hv' h
theorem e4Z {pl:Sem Bool} {Q:Value × List Value->Shared->Prop} (X:K.In s.heap) (I:ObjM s.heap x dx C mA) (hg:W.plainGet K C name=true)
  (hf:W.findIn K (.ref C) name=some (some (.ref f))) (ht:W.isFn K (.ref f)=true) (hv:mA name=none) (h:Q (.ref f,[.ref x]) s) :
  wpAny (model prog w) A (getMethod (.ref x) name pl) Q E s:=by
 obtain ⟨od,J,hl⟩:=I.look
 exact W.method_fn X J (W.plainGet_of hg).1 (W.plainGet_of hg).2 hf (beq_iff_eq.mp ht) (by show (W.lookIn name od).map (·.isSome)=some false; rw [hl,hv]; rfl) h
theorem q7Z {ns:List Str} {Q:Unit->Shared->Prop} (X:K.In s.heap) (I:ObjM s.heap x dx C mA)
  (hs:W.findIn K (.ref C) "__setattr__"=some (some (.builtin "object.__setattr__"))) (hp:W.plainOver K C=true) (ht:W.takerIn K C name=some none) (hh:W.hasDictIn K C=true)
  (hw:PySem.Within mA ns) (hsz:ns.length<=sizeLine)
  (h:∀ h',ObjM h' x dx C (fun y=>if y=name then some v else mA y)->Heap.SameBut dx s.heap h'->Q () { s with heap:=h',toks:=s.toks + 2 }) :
  wpAny (model prog w) A (setAttr (.ref x) name v) Q E s:=by
 obtain ⟨od,J,hl⟩:=I.look
 refine W.set_plain X J hs (W.osa_open (s:={ s with toks:=s.toks + 1 }) (r:=none) X J hp ht fun b=>?_)
 obtain ⟨cd,hc,hd'⟩:=W.any_some hh
 have hx:s.heap.get? x=some ⟨.ref C,some dx,.plain,#[]⟩:=I.obj
 refine wpAny_bind (wpAny_pure (wpAny_bind (wpAny_bind (wpAny_loadPart hx (wpAny_bind (W.Looks.here (s:={ s with toks:=s.toks + 1 }) (W.looks_clsIn X hc) ?_))))))
 rw [hd']
 refine wpAny_pure (a:=some dx) (wpAny_bind (wpAny_pure (wpAny_bind ?_)))
 refine wpAny_nsSet1 (s:={ s with toks:=s.toks + 1 }) I.ns fun h' hn2 hs2=>?_
 obtain ⟨oD,esD,epD,hoD,hdD,hcD⟩:=hn2.count (PySem.Within.cons name v hw)
 refine wpAny_bind (wpAny_lookBehind hoD (by rw [hdD]; exact pastItsLine_dict (Nat.le_trans hcD (by rw [List.length_cons]; omega))) ?_)
 exact wpAny_pure (h _ ⟨(hs2.2 _ (Ne.symm I.ne)).trans I.obj,hn2,I.ne⟩ hs2)
theorem f4Z {R:Result->Shared->Prop} {vs:List Value} {kw:List (Str × Value)} (X:K.In s.heap) (hm:W.makesIn K C=true)
  (hi:W.findIn K (.ref C) "__init__"=some (some (.ref f))) (hf:W.typeIn K (.ref f)=some (.type "function"))
  (h:codeAny (model prog w) (A.under (.builtin "type.__call__" ⟨.ref C :: vs,kw⟩)) (.call (.ref f) ⟨.ref (s.heap.objs.size + 1) :: vs,kw⟩) (W.InitBack (s.heap.objs.size + 1) R)
   { s with heap:=(s.heap.push W.emptyDict).push (W.instObj C s.heap.objs.size) }) :
  codeAny (model prog w) A (.call (.ref C) ⟨vs,kw⟩) R s:=by
 obtain ⟨hh,g,d,t,os⟩:=s
 exact W.make_core (W.makes_of X hm) (W.looks_findIn X hi) (fun self=>W.bind_fn X self hf) (.inl rfl) h
end
def nV (f:Str) (v:V):List (Str × V)->List (Str × V)
 | []=>[(f,v)]
 | (g,x) :: r=>if g=f then (g,v) :: r else (g,x) :: nV f v r
theorem m1Q (f g:Str) (v:V):∀ fs:List (Str × V),(nV f v fs).lookup g=if g=f then some v else fs.lookup g
 | []=>by
  show List.lookup g [(f,v)]=_
  by_cases h:g=f
  ·have hb:(g == f)=true:=beq_iff_eq.mpr h
   simp only [List.lookup,hb,if_pos h]
  ·have hb:(g == f)=false:=beq_eq_false_iff_ne.mpr h
   simp only [List.lookup,hb,if_neg h]
 | (k,x) :: r=>by
  have ih:=m1Q f g v r
  rw [show nV f v ((k,x) :: r)=(if k=f then (k,v) :: r else (k,x) :: nV f v r) from rfl]
  by_cases hk:k=f
  ·rw [if_pos hk]
   by_cases h:g=k
   ·have hb:(g == k)=true:=beq_iff_eq.mpr h
    simp only [List.lookup,hb,if_pos (h.trans hk)]
   ·have hb:(g == k)=false:=beq_eq_false_iff_ne.mpr h
    simp only [List.lookup,hb,if_neg (fun e:g=f=>h (e.trans hk.symm))]
  ·rw [if_neg hk]
   by_cases h:g=k
   ·have hb:(g == k)=true:=beq_iff_eq.mpr h
    simp only [List.lookup,hb,if_neg (fun e:g=f=>hk (h.symm.trans e))]
   ·have hb:(g == k)=false:=beq_eq_false_iff_ne.mpr h
    simp only [List.lookup,hb]
    exact ih
theorem a1Q (f:Str) (v:V):∀ fs:List (Str × V),f∈(nV f v fs).map (·.1)/\∀ g,g∈fs.map (·.1)->g∈(nV f v fs).map (·.1)
 | []=>⟨by simp [nV],fun g h=>by simp at h⟩
 | (k,x) :: r=>by
  obtain ⟨i1,i2⟩:=a1Q f v r
  rw [show nV f v ((k,x) :: r)=(if k=f then (k,v) :: r else (k,x) :: nV f v r) from rfl]
  by_cases hk:k=f
  ·rw [if_pos hk]
   subst hk
   exact ⟨by simp,fun g h=>by simpa using h⟩
  ·rw [if_neg hk]
   refine ⟨?_,fun g h=>?_⟩
   ·rw [List.map_cons]
    exact List.mem_cons_of_mem _ i1
   ·rw [List.map_cons] at h ⊢
    rcases List.mem_cons.mp h with e | e
    ·exact List.mem_cons.mpr (.inl e)
    ·exact List.mem_cons_of_mem _ (i2 g e)
theorem n1Q (f:Str) (v:V):∀ fs:List (Str × V),(nV f v fs).length<=fs.length + 1
 | []=>by simp [nV]
 | (k,x) :: r=>by
  have ih:=n1Q f v r
  rw [show nV f v ((k,x) :: r)=(if k=f then (k,v) :: r else (k,x) :: nV f v r) from rfl]
  by_cases hk:k=f
  ·rw [if_pos hk,List.length_cons,List.length_cons]; omega
  ·rw [if_neg hk,List.length_cons,List.length_cons]; omega
theorem sY.some_of {v:V} {o:Option Value} (r:sY (some v) o):∃ u,o=some u/\qZ v u:=by
 cases o with
 | none=>exact (show False from r).elim
 | some u=>exact ⟨u,rfl,r⟩
theorem sY.none_of {o:Option Value} (r:sY none o):o=none:=by
 cases o with
 | none=>rfl
 | some u=>exact (show False from r).elim
theorem x1Z {v:V} {u:Value} (r:qZ v u):W.handedIn u=true:=by
 cases v with
 | non=>cases (show u=Value.none from r); rfl
 | bl b=>cases (show u=Value.bool b from r); rfl
 | int i=>obtain ⟨t,e⟩:=(show ∃ t,u=Value.int i t from r); cases e; rfl
 | str x=>obtain ⟨t,e⟩:=(show ∃ t,u=Value.str x t from r); cases e; rfl
 | byt b=>obtain ⟨t,e⟩:=(show ∃ t,u=Value.bytes b t from r); cases e; rfl
 | flt b=>obtain ⟨t,e⟩:=(show ∃ t,u=Value.float b t from r); cases e; rfl
 | ref a=>cases (show u=Value.ref a from r); rfl
 | ty n=>cases (show u=Value.type n from r); rfl
section
variable {P:Program} {w:World} {H H':Hp} {h h':Heap} {a C dx:Addr} {fs fs':List (Str × V)}
theorem b2Q (hok:HOk P w H h) (e:H a=some (.ins C dx fs)):∃ mA,ObjM h a dx C mA/\(∀ f,sY (fs.lookup f) (mA f))/\PySem.Within mA (fs.map (·.1))/\fs.length<=1000/\H dx=some (.own a):=by
 obtain ⟨d,z,ne,ob,mA,n,r,q⟩:=(show tZ P w H h a (.ins C dx fs) from hok a _ e)
 exact ⟨mA,⟨ob,n,ne⟩,r,q,z,d⟩
end
structure Cls (K:W.Frag) (C:Addr):Prop where
 pg:W.plainGet K C Str.empty=true
 hd:W.hasDictIn K C=true
 po:W.plainOver K C=true
 sa:W.findIn K (.ref C) "__setattr__"=some (some (.builtin "object.__setattr__"))
theorem Cls.get {K:W.Frag} {C:Addr} (c:Cls K C) (f:Str):W.plainGet K C f=true:=c.pg
def zV (K:W.Frag) (C:Addr) (f:Str):Prop:=W.findIn K (.ref C) f=some none
theorem zV.taker {K:W.Frag} {C:Addr} {f:Str} (n:zV K C f):W.takerIn K C f=some none:=by
 unfold W.takerIn
 rw [show W.findIn K (.ref C) f=some none from n]
 rfl
structure Meth (K:W.Frag) (C:Addr) (m:Str) (f:Addr):Prop where
 at_:W.findIn K (.ref C) m=some (some (.ref f))
 fn:W.isFn K (.ref f)=true
 kp:W.keepIn K (.ref f)=true
section
variable {X:Cx} {pins:List (Addr × Obj)} {σ:St} {H:Hp} {s:Shared} {a C dx:Addr} {fs:List (Str × V)} {f:Str} {v:V} {A:Around} {E:Value->Shared->Prop}
theorem y8Q {b:Bool} {Q:Value->Shared->Prop} (I:Inv X pins σ H s) (e:H a=some (.ins C dx fs)) (c:Cls X.K C) (n:zV X.K C f) (l:fs.lookup f=some v)
  (h:∀ u s',Inv X pins σ H s'->qZ v u->Q u s'):wpAny (model X.prog X.w) A (getAttr (.ref a) f b) Q E s:=by
 obtain ⟨mA,O,r,_,_,_⟩:=b2Q I.hok e
 obtain ⟨u,hu,ru⟩:=sY.some_of (v:=v) (o:=mA f) (by rw [<-l]; exact r f)
 exact p7Z I.kIn O (c.get f) c.hd n hu (x1Z ru) (h u _ (I.tok _) ru)
theorem q2Q {m:Str} {g:Addr} {pl:Sem Bool} {Q:Value × List Value->Shared->Prop} (I:Inv X pins σ H s) (e:H a=some (.ins C dx fs)) (c:Cls X.K C) (k:Meth X.K C m g) (l:fs.lookup m=none)
  (h:Q (.ref g,[.ref a]) s):wpAny (model X.prog X.w) A (getMethod (.ref a) m pl) Q E s:=by
 obtain ⟨mA,O,r,_,_,_⟩:=b2Q I.hok e
 have hn:mA m=none:=sY.none_of (by rw [<-l]; exact r m)
 exact e4Z I.kIn O (c.get m) k.at_ k.fn hn h
theorem z8Q {y:V} {u:Value} {Q:Unit->Shared->Prop} (I:Inv X pins σ H s) (e:H a=some (.ins C dx fs)) (c:Cls X.K C) (n:zV X.K C f) (hl:fs.length < 1000) (ry:qZ y u)
  (h:∀ s',Inv X pins σ (upd H a (.ins C dx (nV f y fs))) s'->Q () s'):wpAny (model X.prog X.w) A (setAttr (.ref a) f u) Q E s:=by
 obtain ⟨mA,O,r,wi,_,ho⟩:=b2Q I.hok e
 have hz:(fs.map (·.1)).length<=sizeLine:=by rw [List.length_map,sizeLine_eq]; omega
 refine q7Z I.kIn O c.sa c.po n.taker c.hd wi hz fun h' O' sb=>h _ ?_
 have hd:∃ o,h'.get? dx=some o:=let ⟨o,_,_,e',_⟩:=O'.ns; ⟨o,e'⟩
 refine I.write (x:=a) (e:=dx) (by rw [e]; exact True.intro) (.inr ho) (fun b q hb z=>(sb.2 b hb).trans z) hd ?_
 refine ⟨by rw [kQ O.ne]; exact ho,?_,O.ne,O'.obj,_,O'.ns,fun g=>?_,fun g hg=>?_⟩
 ·have:=n1Q f y fs; omega
 ·show sY ((nV f y fs).lookup g) (if g=f then some u else mA g)
  rw [m1Q]
  by_cases q:g=f
  ·rw [if_pos q,if_pos q]; exact ry
  ·rw [if_neg q,if_neg q]; exact r g
 ·by_cases q:g=f
  ·rw [q]; exact (a1Q f y fs).1
  ·refine (a1Q f y fs).2 g (wi g fun z=>hg ?_)
   show (if g=f then some u else mA g)=none
   rw [if_neg q]; exact z
theorem Inv.made (I:Inv X pins σ H s):Inv X pins σ (upd (upd H s.heap.objs.size (.own (s.heap.objs.size + 1))) (s.heap.objs.size + 1) (.ins C s.heap.objs.size []))
  { s with heap:=(s.heap.push W.emptyDict).push (W.instObj C s.heap.objs.size) }:=by
 have e1:(s.heap.push W.emptyDict).get? s.heap.objs.size=some W.emptyDict:=Heap.get?_push_size s.heap rfl
 have e2:((s.heap.push W.emptyDict).push (W.instObj C s.heap.objs.size)).get? (s.heap.objs.size + 1)=some (W.instObj C s.heap.objs.size):=by
  have:=Heap.get?_push_size (s.heap.push W.emptyDict) (o:=W.instObj C s.heap.objs.size) rfl
  rwa [Heap.size_push] at this
 have e3:(s.heap.push W.emptyDict).Ns s.heap.objs.size (fun _=>none):=⟨W.emptyDict,#[],_,e1,rfl,(fun e he=>absurd he (by simp)),fun _=>rfl⟩
 have I1:=I.laid (a:=s.heap.objs.size) (o:=.own (s.heap.objs.size + 1)) (h':=s.heap.push W.emptyDict) (t':=s.toks) (fun b u q=>Heap.get?_push_of_some _ q) (Nat.le_refl _) ⟨_,e1⟩
 refine I1.laid (a:=s.heap.objs.size + 1) (o:=.ins C s.heap.objs.size []) (t':=s.toks) (fun b u q=>Heap.get?_push_of_some _ q) (Nat.le_of_eq (Heap.size_push _ _)) ?_
 have ne:s.heap.objs.size≠s.heap.objs.size + 1:=Nat.ne_of_lt (Nat.lt_succ_self _)
 refine ⟨by rw [kQ ne,dQ],Nat.zero_le _,ne,e2,fun _=>none,(Heap.Ns1.of_empty e3).at fun o q=>Heap.get?_push_of_some _ q,fun _=>True.intro,fun y hy=>absurd rfl hy⟩
theorem r7Z {prog:Program} {w:World} {env:Env} {e:Expr} {f:Str} {pos:Pos} {s:Shared} {Q:Value->Shared->Prop} (hb:attributeBase e f env (eval e env)=eval e env)
  (h:wpAny (model prog w) A (eval e env) (fun o s₁=>wpAny (model prog w) A (getAttr o f true) Q E s₁) E s):wpAny (model prog w) A (eval (.Attribute e f pos) env) Q E s:=
 Attribute_any_ h (by rw [arm_eval_Attribute,hb])
end
def tFld (K:W.Frag) (ta:TE) (f:Str):TE:=fun σ H Q=>ta σ H fun x H1=>∃ a C dx fs v,x = .ref a/\H1 a=some (.ins C dx fs)/\Cls K C/\zV K C f/\fs.lookup f=some v/\Q v H1
def sFld (K:W.Frag) (ta tv:TE) (f:Str):TS:=fun D σ H=>tv σ H fun y H1=>ta σ H1 fun x H2=>∃ a C dx fs,x = .ref a/\H2 a=some (.ins C dx fs)/\Cls K C/\zV K C f/\fs.length < 1000 /\
 D.nx σ (upd H2 a (.ins C dx (nV f y fs)))
section
variable {X:Cx} {o e value:Expr} {f:Str} {pos pos' tpos:Pos} {ta tv:TE}
theorem fU (he:PE X e ta) (hb:attributeBase e f X.env (eval e X.env)=eval e X.env):PE X (.Attribute e f pos) (tFld X.K ta f):=by
 intro pins s σ H Q I h
 refine r7Z hb (thn (he pins s σ H _ I h) fun u s1 hh=>?_)
 obtain ⟨x,H1,I1,rx,a,C,dx,fs,v,ex,ea,c,n,l,q⟩:=hh
 subst ex
 obtain rfl:u=Value.ref a:=rx
 exact y8Q I1 ea c n l fun u' s2 I2 ru=>⟨v,H1,I2,ru,q⟩
theorem r2Q (ha:PE X o ta) (hv:PE X value tv) (hs:swapsWith value (some (.Attribute o f pos')) pos.line X.env=pure false):PS X (.Assign [.Attribute o f pos'] value pos) (sFld X.K ta tv f):=by
 intro pins s σ H D I h
 refine plainObj_wpAny_Assign_Attribute (thn (hv pins s σ H _ I h) fun u s1 ⟨y,H1,I1,ry,q⟩=>thn (ha pins s1 σ H1 _ I1 q) fun ov s2 ⟨x,H2,I2,rx,a,C,dx,fs,ex,ea,c,n,l,q2⟩=>?_) hs
 subst ex
 obtain rfl:ov=Value.ref a:=rx
 exact z8Q I2 ea c n l ry fun s3 I3=>⟨σ,_,I3,q2⟩
theorem u9Z {pl:Sem Bool} {m:Str} {apos:Pos} {args:List Expr} {pins:List (Addr × Obj)} {s:Shared} {σ:St} {H:Hp} {Q:Value->Shared->Prop} {te:TE} (he:PE X e te) (I:Inv X pins σ H s)
  (h:te σ H fun x H1=>∃ a C dx fs g,x = .ref a/\H1 a=some (.ins C dx fs)/\Cls X.K C/\Meth X.K C m g/\fs.lookup m=none /\
   ∀ s1,Inv X pins σ H1 s1->wpAny (model X.prog X.w) X.A (callWith pos (.ref g) [.ref a] (backTo pos (starEach args X.env)) (backToKw pos (keywordEach [] X.env))) Q X.xe s1)
  (ht:eval (.Call (.Attribute e m apos) args [] pos) X.env=(do
   let ov <- eval e X.env
   standAt apos.atName
   let (f,first) <- holding [ov] (getMethod ov m pl)
   callWith pos f first (backTo pos (starEach args X.env)) (backToKw pos (keywordEach [] X.env)))) :
  wpAny (model X.prog X.w) X.A (eval (.Call (.Attribute e m apos) args [] pos) X.env) Q X.xe s:=by
 refine W.methodCall_KW (pl:=pl) (thn (he pins s σ H _ I h) fun u s1 hh=>?_) ht
 obtain ⟨x,H1,I1,rx,a,C,dx,fs,g,ex,ea,c,k,l,q⟩:=hh
 subst ex
 obtain rfl:u=Value.ref a:=rx
 exact q2Q I1 ea c k l (q s1 I1)
end
section
variable {X:Cx} {pins:List (Addr × Obj)} {σ:St} {H:Hp} {s:Shared} {A:Around} {E:Value->Shared->Prop} {Q:Value->Shared->Prop} {c:Value} {b:Bool}
inductive TyOf (K:W.Frag) (H:Hp):V->Value->Prop where
 | non:TyOf K H .non (.type "NoneType")
 | bl (x:Bool):TyOf K H (.bl x) (.type "bool")
 | int (i:Int):TyOf K H (.int i) (.type "int")
 | str (x:Str):TyOf K H (.str x) (.type "str")
 | flt (x:UInt64):TyOf K H (.flt x) (.type "float")
 | lst {a:Addr} {xs:List V} (e:H a=some (.lst xs)):TyOf K H (.ref a) (.type "list")
 | frz {a:Addr} {o:Obj} {xs:List V} (e:H a=some (.frz o (.lst xs))):TyOf K H (.ref a) (.type "list")
 | tup {a:Addr} {xs:List V} (e:H a=some (.tup xs)):TyOf K H (.ref a) (.type "tuple")
 | dK {a:Addr} {kvs:List (Key × V)} (e:H a=some (.dK kvs)):TyOf K H (.ref a) (.type "dict")
 | dT {a:Addr} {kvs:List (List Key × V)} (e:H a=some (.dT kvs)):TyOf K H (.ref a) (.type "dict")
 | ins {a C dx:Addr} {fs:List (Str × V)} (e:H a=some (.ins C dx fs)) (cl:Cls K C) (ha:W.findIn K (.ref C) "__class__"=some (some (.builtin "object.__class__")))
   (hn:W.specialIn K (.builtin "object.__class__") "__get__"=some (some (.builtin "getset_descriptor.__get__"))) (htk:W.takesIn K (.builtin "object.__class__")=some true)
   (hm:W.mroIn K C (.type "object")=some true):TyOf K H (.ref a) (.ref C)
theorem y1Z {x:V} {u t:Value} (I:Inv X pins σ H s) (rx:qZ x u) (ty:TyOf X.K H x t) (e:W.kitOne X.K t c=some b) (h:∀ tk,Q (.bool b) { s with toks:=tk }) :
  wpAny (model X.prog X.w) A (call (.builtin "isinstance") [u,c]) Q E s:=by
 cases ty with
 | non=>cases (show u=Value.none from rx); exact W.kia_one W.kitx_none I.kIn True.intro e (fun z=>nomatch z) h
 | bl y=>cases (show u=Value.bool y from rx); exact W.kia_one W.kitx_bool I.kIn True.intro e (fun z=>nomatch z) h
 | int i=>obtain ⟨t,q⟩:=(show ∃ t,u=Value.int i t from rx); cases q; exact W.kia_one W.kitx_int I.kIn True.intro e (fun z=>nomatch z) h
 | str y=>obtain ⟨t,q⟩:=(show ∃ t,u=Value.str y t from rx); cases q; exact W.kia_one W.kitx_str I.kIn True.intro e (fun z=>nomatch z) h
 | flt y=>obtain ⟨t,q⟩:=(show ∃ t,u=Value.float y t from rx); cases q; exact W.kia_one W.kitx_float I.kIn True.intro e (fun z=>nomatch z) h
 | @lst a xs ea =>
  cases (show u=Value.ref a from rx)
  obtain ⟨_,_,n,_,h1⟩:=(show tZ X.prog X.w H s.heap a (.lst xs) from I.hok a _ ea)
  exact W.kia_one W.kitx_list I.kIn ⟨_,h1,rfl⟩ e (fun z=>nomatch z) h
 | @frz a ob xs ea =>
  cases (show u=Value.ref a from rx)
  obtain ⟨_,_,_,n,_,h1⟩:=(show tZ X.prog X.w H s.heap a (.frz ob (.lst xs)) from I.hok a _ ea)
  exact W.kia_one W.kitx_list I.kIn ⟨_,h1,rfl⟩ e (fun z=>nomatch z) h
 | @tup a xs ea =>
  cases (show u=Value.ref a from rx)
  obtain ⟨_,_,_,p⟩:=(show tZ X.prog X.w H s.heap a (.tup xs) from I.hok a _ ea)
  obtain ⟨o,h1,h2,_⟩:=p
  exact W.kia_one W.kitx_tuple I.kIn ⟨o,h1,h2⟩ e (fun z=>nomatch z) h
 | @dK a kvs ea =>
  cases (show u=Value.ref a from rx)
  obtain ⟨_,_,vs,_,p⟩:=(show tZ X.prog X.w H s.heap a (.dK kvs) from I.hok a _ ea)
  obtain ⟨o,es,ep,h1,h2,_⟩:=p
  exact W.kia_one W.kitx_dict I.kIn ⟨o,h1,h2.1⟩ e (fun z=>nomatch z) h
 | @dT a kvs ea =>
  cases (show u=Value.ref a from rx)
  obtain ⟨_,_,xs,_,o,es,ep,h1,h2,_⟩:=(show tZ X.prog X.w H s.heap a (.dT kvs) from I.hok a _ ea)
  exact W.kia_one W.kitx_dict I.kIn ⟨o,h1,h2.1⟩ e (fun z=>nomatch z) h
 | @ins a C dx fs ea cl ha hn htk hm =>
  cases (show u=Value.ref a from rx)
  obtain ⟨mA,O,_⟩:=b2Q I.hok ea
  obtain ⟨od,J,_⟩:=O.look
  exact W.kia_one (W.kitx_own (cl.get _) cl.hd ha hn htk hm) I.kIn J e (fun z=>nomatch z) h
end
end L2
namespace L2
open PySem PySem.Spec PyProof.Rows
structure sZ (k:Nat) (A:Around):Prop where
 hd:A.handled=none
 dp:A.depth + 3 * k + 5 < recursionLimit
 un:A.units + 16 * k + 200 < cLine
theorem sZ.mono {j k:Nat} {A:Around} (r:sZ k A) (h:j<=k):sZ j A:=⟨r.hd,by have:=r.dp; omega,by have:=r.un; omega⟩
theorem sZ.deeper {k:Nat} {A:Around} (r:sZ (k + 1) A) (env:Env):sZ k (A.deeper env):=
 ⟨r.hd,by have:=r.dp; show A.depth + 1 + 3 * k + 5 < _; omega,by have:=r.un; show A.units + 3 + 16 * k + 200 < _; omega⟩
theorem a9Q {A:Around} {C:Addr} {us:List Value} {kw:List (Str × Value)}:(A.under (.builtin "type.__call__" ⟨.ref C :: us,kw⟩)).depth=A.depth + 1:=by
 first | rfl | simp [Around.under,Code.weight,Code.isCreation,Code.isGuard,Code.isCaller,Code.frames,Code.isFrame,guardIds]
theorem b9Q {A:Around} {C:Addr} {us:List Value} {kw:List (Str × Value)}:(A.under (.builtin "type.__call__" ⟨.ref C :: us,kw⟩)).units=A.units + 1:=by
 first | rfl | simp [Around.under,Code.cUnits,Code.frames,Code.isFrame]
theorem sZ.make {k:Nat} {A:Around} (r:sZ (k + 1) A) (C:Addr) (us:List Value) (kw:List (Str × Value)):sZ k (A.under (.builtin "type.__call__" ⟨.ref C :: us,kw⟩)):=
 ⟨r.hd,by have:=r.dp; rw [a9Q]; omega,by have:=r.un; rw [b9Q]; omega⟩
theorem sZ.depth {k:Nat} {A:Around} (r:sZ k A):A.depth < recursionLimit:=by have:=r.dp; omega
theorem sZ.units {k:Nat} {A:Around} (r:sZ k A):A.units + 64 < cLine:=by have:=r.un; omega
def tNil:TA:=fun _ H Q=>Q [] H
def o1Q (ta:TE) (tr:TA):TA:=fun σ H Q=>ta σ H fun x H1=>tr σ H1 fun xs H2=>Q (x :: xs) H2
section
variable {X:Cx} {e:Expr} {es:List Expr} {te:TE} {t:TA} {pos:Pos}
theorem eQ:PA X [] tNil:=fun _ _ _ _ H Q I h=>Calls.spliced_nil ⟨[],H,I,.nil,h⟩
theorem aQ (ha:PE X e te) (hr:PA X es t) (hs:starEach (e :: es) X.env=(false,eval e X.env) :: starEach es X.env:=by rfl):PA X (e :: es) (o1Q te t):=by
 intro pos pins s σ H Q I h
 rw [hs]
 show wpAny _ _ (spliced ((false,eval e X.env) :: backTo pos (starEach es X.env))) _ _ s
 refine Calls.spliced_cons (thn (ha pins s σ H _ I h) fun u s1 hh=>?_)
 obtain ⟨x,H1,I1,r1,q1⟩:=hh
 exact thn (hr pos pins s1 σ H1 _ I1 q1) fun us s2 ⟨xs,H2,I2,r2,q2⟩=>⟨x :: xs,H2,I2,.cons r1 r2,q2⟩
def tTup (t:TA):TE:=fun σ H Q=>t σ H fun xs H1=>xs.length<=sizeLine/\∀ p,H1 p=none->Q (.ref p) (upd H1 p (.tup xs))
def tLst (t:TA):TE:=fun σ H Q=>t σ H fun xs H1=>xs.length<=sizeLine/\∀ p,H1 p=none->Q (.ref p) (upd H1 p (.lst xs))
theorem iZ {x1} (h:PA X es t):PE X (.Tuple es x1 pos) (tTup t):=by
 intro pins s σ H Q I hq
 refine wpAny_Tuple_spliced (thn (h pos pins s σ H _ I hq) fun us s1 ⟨xs,H1,I1,r,z,q⟩=>⟨by rw [<-r.length]; exact z,?_⟩)
 have hf:H1 s1.heap.objs.size=none:=I1.hok.fresh (Nat.le_refl _)
 refine ⟨.ref s1.heap.objs.size,upd H1 s1.heap.objs.size (.tup xs),I1.laid (t':=s1.toks) (fun b u e=>Heap.get?_push_of_some _ e) (Nat.le_refl _) ?_,rfl,q _ hf⟩
 exact ⟨z,us,r,⟨_,Heap.get?_push_size _ rfl,rfl,_,rfl⟩⟩
theorem jX (h:PA X es t):PE X (.List es pos) (tLst t):=by
 intro pins s σ H Q I hq
 refine wpAny_List_spliced (thn (h pos pins s σ H _ I hq) fun us s1 ⟨xs,H1,I1,r,z,q⟩=>⟨by rw [<-r.length]; exact z,?_⟩)
 have hf:H1 s1.heap.objs.size=none:=I1.hok.fresh (Nat.le_refl _)
 refine ⟨.ref s1.heap.objs.size,upd H1 s1.heap.objs.size (.lst xs),I1.laid (t':=s1.toks) (fun b u e=>Heap.get?_push_of_some _ e) (Nat.le_refl _) ?_,rfl,q _ hf⟩
 exact ⟨z,us,0,r,Heap.get?_push_size _ rfl⟩
end
abbrev Sp:=List V->Hp->VK->XK->Prop
abbrev CXT:=List Env->Hp->Shared->XK->Value->Shared->Prop
structure Env0 (P:Program) (w:World) (K:W.Frag) (mg:Str->Option Value) (base:Heap) (A:Around) (outer:List Env) (s:Shared) (H:Hp):Prop where
 frames:A.frames=some outer
 mod:Mod K mg base
 bs:∀ b o,base.get? b=some o->s.heap.get? b=some o/\H b=none
 bsz:base.objs.size<=s.heap.objs.size
 funs:s.heap.FunFrames base outer
 frf:∀ b∈frs outer,H b=none
 hok:HOk P w H s.heap
 bare:AllBare s.gens
def CE (outer:List Env) (P:Program) (w:World) (H:Hp) (s:Shared) (Q:VK) (u:Value) (s':Shared):Prop:=
 ∃ v H',s'.os=s.os/\AllBare s'.gens/\Un (frs outer) [] H H' s.heap s'.heap/\HOk P w H' s'.heap/\qZ v u/\Q v H'
def CR (CX:CXT) (outer:List Env) (P:Program) (w:World) (H:Hp) (s:Shared) (Q:VK) (E:XK) (r:Result) (s':Shared):Prop:=
 match r with
 | .ok (.ret u)=>CE outer P w H s Q u s'
 | .ok _=>False
 | .error e=>CX outer H s E e s'
structure gU (P:Program) (w:World) (K:W.Frag) (mg:Str->Option Value) (base:Heap) (CX:CXT) (k:Nat) (f:Addr) (fd:FuncData) (ps:List Str) (sp:Sp):Prop where
 len:∀ vs H Q E,sp vs H Q E->vs.length=ps.length
 run:∀ (A:Around) (outer:List Env) (s:Shared) (H:Hp) (args:Args) (us:List Value) (vs:List V) (Q:VK) (E:XK),sZ k A->Env0 P w K mg base A outer s H->BindsTo s fd args (ps.zip us)->rZ vs us->sp vs H Q E ->
  codeAny (model P w) A (.call (.ref f) args) (CR CX outer P w H s Q E) s
theorem Env0.make {P:Program} {w:World} {K:W.Frag} {mg:Str->Option Value} {base:Heap} {A:Around} {outer:List Env} {s:Shared} {H:Hp} (e:Env0 P w K mg base A outer s H) (C:Addr) (us:List Value) (kw:List (Str × Value)) :
  Env0 P w K mg base (A.under (.builtin "type.__call__" ⟨.ref C :: us,kw⟩)) outer s H:=⟨by first | exact e.frames | (simpa [Around.under,Code.envs,Code.isFrame,pushEnvs] using e.frames),e.mod,e.bs,e.bsz,e.funs,e.frf,e.hok,e.bare⟩
section
variable {X:Cx} {pins:List (Addr × Obj)} {σ:St} {H:Hp} {s s':Shared}
theorem Inv.env0 (I:Inv X pins σ H s):Env0 X.prog X.w X.K X.mg X.base X.A X.stack s H:=
 ⟨I.ok.frames,I.ok.mod,I.bs,Nat.le_trans I.ok.bsz I.sz,I.stack,I.stkFree,I.hok,I.bare⟩
theorem Inv.after {Q:VK} {u:Value} (I:Inv X pins σ H s) (h:CE X.stack X.prog X.w H s Q u s'):EP X pins σ Q u s':=by
 obtain ⟨v,H',os,bare,un,hok,r,q⟩:=h
 obtain ⟨hh,g,d,t,os'⟩:=s'
 obtain rfl:os'=s.os:=os
 exact ⟨v,H',I.call (h':=hh) (g':=g) (d':=d) (t':=t) (ch:=[]) un hok bare (fun b z=>absurd z (by simp)),r,q⟩
end
def v9Z (sp:Sp) (dvs:List V) (E:XK) (t:TA):TE:=fun σ H Q=>t σ H fun vs H1=>sp (vs++dvs) H1 Q E
def w9Z (C:Addr) (m:Str) (sp:Sp) (dvs:List V) (E:XK) (ta:TE) (t:TA):TE:=fun σ H Q=>ta σ H fun x H1=>∃ a dx fs,x = .ref a/\H1 a=some (.ins C dx fs)/\fs.lookup m=none /\
 t σ H1 fun vs H2=>sp (x :: (vs++dvs)) H2 Q E
def k2X (C:Addr) (sp:Sp) (dvs:List V) (E:XK) (t:TA):TE:=fun σ H Q=>t σ H fun vs H1=>∀ x dx,H1 x=none->H1 dx=none->dx≠x ->
 sp (.ref x :: (vs++dvs)) (upd (upd H1 dx (.own x)) x (.ins C dx [])) (fun v H2=>v = .non/\Q (.ref x) H2) E
def mY (K:W.Frag) (fd:FuncData) (ps:List Str) (ds:List Value):Prop:=
 ∀ (s:Shared) (us:List Value),K.In s.heap->(us++ds).length=ps.length->BindsTo s fd ⟨us,[]⟩ (ps.zip (us++ds))
theorem mY.all {K:W.Frag} {fd:FuncData} {ps:List Str} (h:∀ us:List Value,us.length=ps.length->bindArgs fd ⟨us,[]⟩=pure (ps.zip us)):mY K fd ps []:=fun s us _ hl=>by
 rw [List.append_nil] at hl ⊢
 exact .of_eq (h us hl)
def b1Q (CX:CXT) (X:Cx) (E:XK):Prop:=∀ (pins:List (Addr × Obj)) (σ:St) (H:Hp) (s:Shared) (e:Value) (s':Shared),Inv X pins σ H s->CX X.stack H s E e s'->X.xe e s'
section
variable {X:Cx} {CX:CXT} {k:Nat} {f C:Addr} {fd:FuncData} {ps:List Str} {sp:Sp} {dvs:List V} {ds:List Value} {E:XK} {x m:Str} {p pos apos:Pos} {e o:Expr} {es:List Expr} {ta:TE} {t:TA}
theorem g4Z {pins:List (Addr × Obj)} {σ:St} {H:Hp} {s:Shared} {Q:VK} {us:List Value} {vs:List V} (F:gU X.prog X.w X.K X.mg X.base CX k f fd ps sp) (hr:sZ k X.A) (hb:mY X.K fd ps ds) (hd:rZ dvs ds) (hx:b1Q CX X E)
  (I:Inv X pins σ H s) (r:rZ vs us) (h:sp (vs++dvs) H Q E):wpAny (model X.prog X.w) X.A (call (.ref f) us) (EP X pins σ Q) X.xe s:=by
 have r2:rZ (vs++dvs) (us++ds):=r.append hd
 have hl:(us++ds).length=ps.length:=by rw [<-r2.length]; exact F.len _ _ _ _ h
 refine wpAny_call (codeAny_mono (F.run X.A X.stack s H ⟨us,[]⟩ (us++ds) (vs++dvs) Q E hr I.env0 (hb s us I.kIn hl) r2 h) fun r s' hq=>?_)
 cases r with
 | error e=>exact hx pins σ H s e s' I hq
 | ok fl =>
  cases fl with
  | ret u=>exact I.after hq
  | next=>exact False.elim hq
  | brk=>exact False.elim hq
  | cont=>exact False.elim hq
theorem s7Z (F:gU X.prog X.w X.K X.mg X.base CX k f fd ps sp) (hr:sZ k X.A) (hg:Gl X x) (hm:X.mg x=some (.ref f)) (hk:W.keepIn X.K (.ref f)=true) (hb:mY X.K fd ps ds) (hd:rZ dvs ds) (hx:b1Q CX X E)
  (ha:PA X (e :: es) t) (hdb:(x == ("__debug__":Str))=false:=by decide) (he:starEach (e :: es) X.env=(false,eval e X.env) :: starEach es X.env:=by rfl) (hpl:(backTo pos (starEach es X.env)).any (·.1)=false:=by rfl) :
  PE X (.Call (.Name x p) (e :: es) [] pos) (v9Z sp dvs E t):=by
 intro pins s σ H Q I h
 refine wpAny_Call_Name_kw (w5Q I hg hm ?_ hdb)
 refine W.callWith_K (h₀:=X.base) I.ok.mod.kin hk (thn (ha pos pins s σ H _ I h) fun us s1 ⟨vs,H1,I1,r,q⟩=>⟨I1.kIn,?_⟩) he hpl
 exact g4Z F hr hb hd hx I1 r q
theorem t7Z {pl:Sem Bool} (he:PE X o ta) (c:Cls X.K C) (hm:Meth X.K C m f) (F:gU X.prog X.w X.K X.mg X.base CX k f fd ps sp) (hr:sZ k X.A) (hb:mY X.K fd ps ds) (hd:rZ dvs ds) (hx:b1Q CX X E) (ha:PA X (e :: es) t)
  (hst:starEach (e :: es) X.env=(false,eval e X.env) :: starEach es X.env:=by rfl) (hpl:(backTo pos (starEach es X.env)).any (·.1)=false:=by rfl)
  (ht:eval (.Call (.Attribute o m apos) (e :: es) [] pos) X.env=(do
   let ov <- eval o X.env
   standAt apos.atName
   let (f,first) <- holding [ov] (getMethod ov m pl)
   callWith pos f first (backTo pos (starEach (e :: es) X.env)) (backToKw pos (keywordEach [] X.env))):=by rfl) :
  PE X (.Call (.Attribute o m apos) (e :: es) [] pos) (w9Z C m sp dvs E ta t):=by
 intro pins s σ H Q I h
 refine W.methodCall_KW (pl:=pl) (thn (he pins s σ H _ I h) fun u s1 hh=>?_) ht
 obtain ⟨x,H1,I1,rx,a,dx,fs,ex,ea,l,q⟩:=hh
 subst ex
 obtain rfl:u=Value.ref a:=rx
 refine q2Q I1 ea c hm l ?_
 refine W.callWith_K (first:=[.ref a]) (h₀:=X.base) I.ok.mod.kin hm.kp (thn (ha pos pins s1 σ H1 _ I1 q) fun us s2 ⟨vs,H2,I2,r,q2⟩=>⟨I2.kIn,?_⟩) hst hpl
 exact g4Z (us:=.ref a :: us) (vs:=.ref a :: vs) F hr hb hd hx I2 (.cons rfl r) q2
structure Mk (K:W.Frag) (C f:Addr):Prop where
 makes:W.makesIn K C=true
 init:W.findIn K (.ref C) "__init__"=some (some (.ref f))
 fn:W.isFn K (.ref f)=true
 kp:W.keepIn K (.ref C)=true
theorem h4Z {pins:List (Addr × Obj)} {σ:St} {H:Hp} {s:Shared} {Q:VK} {us:List Value} {vs:List V} (M:Mk X.K C f) (F:gU X.prog X.w X.K X.mg X.base CX k f fd ps sp) (hr:sZ (k + 1) X.A) (hb:mY X.K fd ps ds) (hd:rZ dvs ds)
  (hx:b1Q CX X E) (I:Inv X pins σ H s) (r:rZ vs us)
  (h:∀ x dx,H x=none->H dx=none->dx≠x->sp (.ref x :: (vs++dvs)) (upd (upd H dx (.own x)) x (.ins C dx [])) (fun v H2=>v = .non/\Q (.ref x) H2) E) :
  wpAny (model X.prog X.w) X.A (call (.ref C) us) (EP X pins σ Q) X.xe s:=by
 have hq:=h (s.heap.objs.size + 1) s.heap.objs.size (I.hok.fresh (Nat.le_succ _)) (I.hok.fresh (Nat.le_refl _)) (Nat.ne_of_lt (Nat.lt_succ_self _))
 have I2:=Inv.made (C:=C) I
 have r2:rZ (V.ref (s.heap.objs.size + 1) :: (vs++dvs)) (Value.ref (s.heap.objs.size + 1) :: (us++ds)):=.cons rfl (r.append hd)
 have hl:(Value.ref (s.heap.objs.size + 1) :: us++ds).length=ps.length:=by
  have e:=r2.length
  rw [F.len _ _ _ _ hq] at e
  exact e.symm
 refine wpAny_call (f4Z (f:=f) I.kIn M.makes M.init (beq_iff_eq.mp M.fn) (codeAny_mono (F.run _ X.stack _ _ ⟨Value.ref (s.heap.objs.size + 1) :: us,[]⟩ (Value.ref (s.heap.objs.size + 1) :: (us++ds)) _ _ E (hr.make C us [])
  (I2.env0.make C us []) (hb _ (Value.ref (s.heap.objs.size + 1) :: us) I2.kIn hl) r2 hq) fun r s' hq'=>?_))
 cases r with
 | error e=>exact hx pins σ _ _ e s' I2 hq'
 | ok fl =>
  cases fl with
  | ret u =>
   obtain ⟨v,H',I3,rv,ev,q3⟩:=I2.after hq'
   subst ev
   exact ⟨rv,⟨V.ref (s.heap.objs.size + 1),H',I3,rfl,q3⟩⟩
  | next=>exact False.elim hq'
  | brk=>exact False.elim hq'
  | cont=>exact False.elim hq'
theorem j0Z (M:Mk X.K C f) (F:gU X.prog X.w X.K X.mg X.base CX k f fd ps sp) (hr:sZ (k + 1) X.A) (hg:Gl X x) (hm:X.mg x=some (.ref C)) (hb:mY X.K fd ps ds) (hd:rZ dvs ds) (hx:b1Q CX X E)
  (ha:PA X (e :: es) t) (hdb:(x == ("__debug__":Str))=false:=by decide) (he:starEach (e :: es) X.env=(false,eval e X.env) :: starEach es X.env:=by rfl) (hpl:(backTo pos (starEach es X.env)).any (·.1)=false:=by rfl) :
  PE X (.Call (.Name x p) (e :: es) [] pos) (k2X C sp dvs E t):=by
 intro pins s σ H Q I h
 refine wpAny_Call_Name_kw (w5Q I hg hm ?_ hdb)
 refine W.callWith_K (h₀:=X.base) I.ok.mod.kin M.kp (thn (ha pos pins s σ H _ I h) fun us s1 ⟨vs,H1,I1,r,q⟩=>⟨I1.kIn,?_⟩) he hpl
 exact h4Z M F hr hb hd hx I1 r q
end
section
variable {X:Cx} {CX:CXT} {k:Nat} {f C:Addr} {fd:FuncData} {ps ks:List Str} {sp:Sp} {E:XK} {x m:Str} {p pos apos kpos:Pos} {e o:Expr} {es:List Expr} {kws:List Keyword} {te ta:TE} {t tk:TA} {nm:Option Str}
variable {g:List Value->List Value->List Value} {gV:List V->List V->List V}
end
structure yQ (N P:List Str) (sc:Scope):Prop where
 kind:sc.kind = .function
 co:sc.isCoroutine=false
 gen:sc.isGenerator=false
 nd:N.Nodup
 pre:N.take P.length=P
 par:∀ x∈P,sc.names.lookup x=some .local\/sc.names.lookup x=some .cell
 nofree:∀ y∈sc.names,y.2 ≠ .free
theorem t4Q {kindOf:Str->Option NameKind} {x:Str}:∀ {binds:List (Str × Value)} {m:Str->Option Value},(∀ v,(x,v)∉binds)->bindL kindOf binds m x=m x
 | [],_,_=>rfl
 | (n,v) :: r,m,h=>by
  unfold bindL
  rw [t4Q fun w hw=>h w (List.mem_cons_of_mem _ hw)]
  split
  ·have:x≠n:=by rintro rfl; exact h v List.mem_cons_self
   simp [this]
  ·rfl
theorem u4Q {kindOf:Str->Option NameKind} {x:Str}:∀ {binds:List (Str × Value)} {m:Str->Option Value},(∀ v,(x,v)∉binds)->bindC kindOf binds m x=m x
 | [],_,_=>rfl
 | (n,v) :: r,m,h=>by
  unfold bindC
  rw [u4Q fun w hw=>h w (List.mem_cons_of_mem _ hw)]
  split
  ·rfl
  ·have:x≠n:=by rintro rfl; exact h v List.mem_cons_self
   simp [this]
theorem v4Q {kindOf:Str->Option NameKind} {x:Str} {v:Value}:∀ {P:List Str} {vs:List Value} {i:Nat} {m:Str->Option Value},P.Nodup->P[i]?=some x->vs[i]?=some v->kindOf x=some .local ->
  bindL kindOf (P.zip vs) m x=some v
 | [],_,_,_,_,h,_,_=>by simp at h
 | _ :: _,[],_,_,_,_,h,_=>by simp at h
 | p :: P,w :: vs,0,m,nd,h1,h2,hk=>by
  simp at h1 h2; subst h1; subst h2
  show bindL kindOf ((p,w) :: P.zip vs) m p=_
  unfold bindL
  rw [t4Q fun v hv=>(List.nodup_cons.mp nd).1 (List.of_mem_zip hv).1,if_pos hk]
  simp
 | p :: P,w :: vs,i + 1,m,nd,h1,h2,hk=>by
  show bindL kindOf ((p,w) :: P.zip vs) m x=_
  unfold bindL
  exact v4Q (i:=i) (List.nodup_cons.mp nd).2 (by simpa using h1) (by simpa using h2) hk
theorem w4Q {kindOf:Str->Option NameKind} {x:Str} {v:Value}:∀ {P:List Str} {vs:List Value} {i:Nat} {m:Str->Option Value},P.Nodup->P[i]?=some x->vs[i]?=some v->kindOf x≠some .local ->
  bindC kindOf (P.zip vs) m x=some v
 | [],_,_,_,_,h,_,_=>by simp at h
 | _ :: _,[],_,_,_,_,h,_=>by simp at h
 | p :: P,w :: vs,0,m,nd,h1,h2,hk=>by
  simp at h1 h2; subst h1; subst h2
  show bindC kindOf ((p,w) :: P.zip vs) m p=_
  unfold bindC
  rw [u4Q fun v hv=>(List.nodup_cons.mp nd).1 (List.of_mem_zip hv).1,if_neg hk]
  simp
 | p :: P,w :: vs,i + 1,m,nd,h1,h2,hk=>by
  show bindC kindOf ((p,w) :: P.zip vs) m x=_
  unfold bindC
  exact w4Q (i:=i) (List.nodup_cons.mp nd).2 (by simpa using h1) (by simpa using h2) hk
def start (N:List Str) (vs:List V):St:=vs.map some++List.replicate (N.length - vs.length) none
def cxOf (CX:CXT) (P:Program) (w:World) (K:W.Frag) (mg:Str->Option Value) (base:Heap) (N:List Str) (qual:Str) (scope:Scope) (f:Addr) (cd:Value) (A:Around) (outer:List Env) (s:Shared) (H:Hp) (E:XK):Cx where
 prog:=P
 w:=w
 K:=K
 mg:=mg
 base:=base
 A:=A.deeper (envOfC qual scope s.heap.objs.size f cd)
 N:=N
 s₀:=s
 H₀:=H
 env:=envOfC qual scope s.heap.objs.size f cd
 outer:=outer
 stack:=envOfC qual scope s.heap.objs.size f cd :: outer
 ex:=[]
 calm:=true
 fn:=fun _=>true
 pn:=[]
 xe:=fun e s'=>wpAny (model P w) (A.deeper (envOfC qual scope s.heap.objs.size f cd)) (leaving (envOfC qual scope s.heap.objs.size f cd) e) (fun _ s''=>CX outer H s E e s'') (fun e' s''=>CX outer H s E e' s'') s'
theorem h7Q {sc:Scope} {n:Nat} {x:Str} (h:sc.names.lookup x=some .cell):∃ c,(cellsFrom n sc.names []).lookup x=some c:=by
 have q:=W.cellsFrom_some sc.names n [] (.inl h)
 exact Option.isSome_iff_exists.mp q
theorem z1Z {CX:CXT} {P:Program} {w:World} {K:W.Frag} {mg:Str->Option Value} {base:Heap} {N ps:List Str} {qual:Str} {scope:Scope} {f:Addr} {cd:Value} {A:Around} {outer:List Env} {s s1:Shared} {H:Hp} {E:XK} {us:List Value} {vs:List V}
  (S:yQ N ps scope) (hd:A.handled=none) (e0:Env0 P w K mg base A outer s H) (hl:vs.length=ps.length) (r:rZ vs us)
  (x:InCallC s s.heap.objs.size (bindL (envOfC qual scope s.heap.objs.size f cd).kindOf (ps.zip us) fun _=>none) (cellsFrom (s.heap.objs.size + 1) scope.names []) (bindC (envOfC qual scope s.heap.objs.size f cd).kindOf (ps.zip us) fun _=>none) s1) :
  Inv (cxOf CX P w K mg base N qual scope f cd A outer s H E) [] (start N vs) H s1:=by
 have hpl:ps.length<=N.length:=by have:=congrArg List.length S.pre; rw [List.length_take] at this; omega
 obtain ⟨h1,tk,rfl,hk⟩:=x.done
 have noA:∀ b:Addr,b∉(cxOf CX P w K mg base N qual scope f cd A outer s H E).ex:=fun b z=>absurd (show b∈([]:List Addr) from z) (by simp)
 refine ⟨⟨e0.mod,S.kind,rfl,rfl,Nat.le_refl _,fun y z c h1 h2=>?_,fun y hy=>?_,fun y c _ h=>?_,fun _=>hd,Around.frames_deeper e0.frames,.inr ⟨rfl,rfl⟩,fun b z=>absurd z (noA b),e0.bs,e0.bsz,fun b _ _=>noA b,fun b z=>absurd z (noA b),e0.funs,e0.frf⟩,
  rfl,e0.bare,Un.kept hk,⟨_,x.toInCall.ns,fun i y v h1 h2 h3=>?_⟩,fun y c h=>⟨_,x.cell y c h⟩,e0.hok.fresh (Nat.le_refl _),fun y c h=>?_,fun p hp=>absurd (show p∈([]:List (Addr × Obj)) from hp) (by simp),e0.hok.kept hk,?_⟩
 ·exact name_of_addr x.apart (PySem.mem_of_lookup h1) (PySem.mem_of_lookup h2)
 ·have hy:scope.names.lookup y=some .cell\/scope.names.lookup y=some .free:=hy
  rcases hy with hy | hy
  ·exact h7Q hy
  ·exact absurd rfl (S.nofree _ (PySem.mem_of_lookup hy))
 ·exact Nat.le_of_lt (x.above y c (PySem.mem_of_lookup h))
 ·have hi:i < vs.length:=by
   unfold start at h2
   by_cases hi:i < vs.length
   ·exact hi
   ·rw [List.getElem?_append_right (by simpa using hi)] at h2
    rw [List.getElem?_replicate] at h2
    split at h2 <;> cases h2
  have ha:vs[i]?=some v:=by
   unfold start at h2
   rw [List.getElem?_append_left (by simpa using hi),List.getElem?_map] at h2
   cases e:vs[i]? with
   | none=>rw [e] at h2; cases h2
   | some a=>rw [e] at h2; cases h2; rfl
  obtain ⟨u,hu,rv⟩:=r.get ha
  have hp:ps[i]?=some y:=by
   rw [<-S.pre,List.getElem?_take_of_lt (by omega)]; exact h1
  have ndP:ps.Nodup:=by rw [<-S.pre]; exact S.nd.sublist (List.take_sublist _ _)
  refine ⟨u,rv,?_⟩
  rcases S.par y (List.mem_of_getElem? hp) with k | k
  ·exact .inl ⟨k,v4Q ndP hp hu k⟩
  ·obtain ⟨c,e⟩:=h7Q (n:=s.heap.objs.size + 1) k
   refine .inr ⟨.inl k,c,e,?_⟩
   have q:=x.cell y c e
   rw [w4Q ndP hp hu (by show scope.names.lookup y≠_; rw [k]; decide)] at q
   exact q
 ·exact e0.hok.fresh (Nat.le_of_lt (x.above y c (PySem.mem_of_lookup h)))
 ·unfold start
  show _=N.length
  rw [List.length_append,List.length_map,List.length_replicate]
  omega
theorem l2X {CX:CXT} {P:Program} {w:World} {K:W.Frag} {mg:Str->Option Value} {base:Heap} {k:Nat} {f:Addr} {name qual:Str} {params:Arguments} {body:List Stmt} {scope:Scope} {dV kV doc pm cdv ct oc:Value} {an od:Option Addr}
  {osl:Array (Option Value)} {N ps:List Str} {sp:Sp} (lk:K.lookup f=some ⟨oc,od,.func (W.fnOf name qual params body scope dV kV doc pm an cdv ct),osl⟩) (hcd:W.codeIn K cdv qual=true) (S:yQ N ps scope)
  (len:∀ vs H Q E,sp vs H Q E->vs.length=ps.length)
  (hbody:∀ (A:Around) (outer:List Env) (s:Shared) (H:Hp) (vs:List V) (Q:VK) (E:XK),sZ k (A.deeper (envOfC qual scope s.heap.objs.size f cdv))->sp vs H Q E ->
   ∃ t,PSs (cxOf CX P w K mg base N qual scope f cdv A outer s H E) body t/\t { nx:=fun _ H'=>Q .non H',rt:=Q } (start N vs) H) :
  gU P w K mg base CX (k + 1) f (W.fnOf name qual params body scope dV kV doc pm an cdv ct) ps sp:=by
 refine ⟨len,fun A outer s H args us vs Q E hr e0 hb r hsp=>?_⟩
 have hl:=len _ _ _ _ hsp
 have KX:K.In s.heap:=e0.mod.kin.keeps fun b o e=>(e0.bs b o e).1
 have lim:s.heap.NoLimit:=e0.mod.nolimit.keeps fun b o e=>(e0.bs b o e).1
 have hkind:∀ y∈ps.zip us,scope.names.lookup y.1=some .local\/(scope.names.lookup y.1=some .cell/\((cellsFrom (s.heap.objs.size + 1) scope.names []).lookup y.1).isSome=true):=fun ⟨n,v⟩ hy=>by
  rcases S.par n (List.of_mem_zip hy).1 with q | q
  ·exact .inl q
  ·exact .inr ⟨q,W.cellsFrom_some _ _ _ (.inl q)⟩
 refine codeAny_call_function hr.depth (KX _ _ lk) rfl S.co S.gen rfl (W.codeRec_of KX hcd) (hb _ _ _ _ ?_)
 refine wpAny_newFunctionEnv_cells S.kind hkind fun env he s1 x=>?_
 subst he
 refine ⟨lim.keeps x.toInCall.keep,codeAny_func ?_⟩
 obtain ⟨t,ht,hq⟩:=hbody A outer s H vs Q E (hr.deeper _) hsp
 have I:Inv (cxOf CX P w K mg base N qual scope f cdv A outer s H E) [] (start N vs) H s1:=z1Z S hr.hd e0 hl r x
 refine wpAny_mono (ht [] s1 (start N vs) H _ I hq) (fun fl s' hs=>?_) fun e s' hs=>hs
 have fin:∀ {σ':St} {H':Hp} {v:V} {u:Value},Inv (cxOf CX P w K mg base N qual scope f cdv A outer s H E) [] σ' H' s'->qZ v u->Q v H'->CE outer P w H s Q u s':=
  fun {σ' H' v u} J rv q=>⟨v,H',J.os,J.bare,J.base,J.hok,rv,q⟩
 cases fl with
 | ret u =>
  obtain ⟨v,σ',H',J,rv,q⟩:=hs
  exact fin J rv q
 | next =>
  obtain ⟨σ',H',J,q⟩:=hs
  exact fin (v:=V.non) (u:=Value.none) J rfl q
 | brk =>
  obtain ⟨_,_,_,q⟩:=hs
  exact False.elim q
 | cont =>
  obtain ⟨_,_,_,q⟩:=hs
  exact False.elim q
end L2
namespace L2
open PySem PySem.Spec PyProof.Rows
section
variable {X:Cx} {x:Str} {p pos:Pos} {e:Expr} {es:List Expr} {t:TA} {id T:String} {r:List V->Hp->VK->Prop}
def tCB (r:List V->Hp->VK->Prop) (t:TA):TE:=fun σ H Q=>t σ H fun vs H1=>r vs H1 Q
theorem bZ (hc:yV X (.builtin id) r) (hg:Gl X x) (hm:X.mg x=none) (hv:bootBuiltins x=some (.builtin id)) (ha:PA X (e :: es) t) (hn:x ≠ "__name__":=by decide) (hdb:(x == ("__debug__":Str))=false:=by decide)
  (he:starEach (e :: es) X.env=(false,eval e X.env) :: starEach es X.env:=by rfl) (hpl:(backTo pos (starEach es X.env)).any (·.1)=false:=by rfl):PE X (.Call (.Name x p) (e :: es) [] pos) (tCB r t):=by
 intro pins s σ H Q I h
 refine wpAny_Call_Name_kw (wV I hg hm hv ?_ hn hdb)
 exact PyProof.Rows.callWith_builtin1 (thn (ha pos pins s σ H _ I h) fun us s1 ⟨vs,H1,I1,r1,q1⟩=>hc pins s1 σ H1 vs us Q I1 r1 q1) he hpl
theorem tV (hc:yV X (.type T) r) (hg:Gl X x) (hm:X.mg x=none) (hv:bootBuiltins x=some (.type T)) (ha:PA X (e :: es) t) (hn:x ≠ "__name__":=by decide) (hdb:(x == ("__debug__":Str))=false:=by decide)
  (he:starEach (e :: es) X.env=(false,eval e X.env) :: starEach es X.env:=by rfl) (hpl:(backTo pos (starEach es X.env)).any (·.1)=false:=by rfl):PE X (.Call (.Name x p) (e :: es) [] pos) (tCB r t):=by
 intro pins s σ H Q I h
 refine wpAny_Call_Name_kw (wV I hg hm hv ?_ hn hdb)
 exact PyProof.Rows.callWith_type1 (thn (ha pos pins s σ H _ I h) fun us s1 ⟨vs,H1,I1,r1,q1⟩=>hc pins s1 σ H1 vs us Q I1 r1 q1) he hpl
end
end L2
namespace L2
open PySem PySem.Spec PyProof.Rows
section
variable {κ:Type} [DecidableEq κ]
def vZ (kvs:List (κ × V)) (k:κ):Option V:=(kvs.find? fun kv=>decide (kv.1=k)).map (·.2)
def dX (kvs:List (κ × V)) (k:κ) (v:V):List (κ × V):=
 if (kvs.any fun kv=>decide (kv.1=k))=true then kvs.map (fun kv=>if kv.1=k then (kv.1,v) else kv) else kvs++[(k,v)]
theorem uX {p:κ × V} {r:List (κ × V)} {k:κ} (e:p.1=k):vZ (p :: r) k=some p.2:=by simp [vZ,List.find?_cons,e]
theorem vX {p:κ × V} {r:List (κ × V)} {k:κ} (e:¬ p.1=k):vZ (p :: r) k=vZ r k:=by simp [vZ,List.find?_cons,e]
theorem xJ (k:κ):∀ kvs:List (κ × V),(kvs.any fun kv=>decide (kv.1=k))=(vZ kvs k).isSome
 | []=>rfl
 | p :: r=>by
  rw [List.any_cons]
  by_cases e:p.1=k
  ·simp only [uX e,decide_eq_true e,Bool.true_or,Option.isSome_some]
  ·rw [vX e,decide_eq_false e,Bool.false_or]; exact xJ k r
theorem i7Q (k j:κ) (y:V):∀ kvs:List (κ × V),vZ (kvs.map fun kv=>if kv.1=k then (kv.1,y) else kv) j=(vZ kvs j).map fun x=>if j=k then y else x
 | []=>rfl
 | p :: r=>by
  have ih:=i7Q k j y r
  rw [List.map_cons]
  by_cases h:p.1=k
  ·rw [if_pos h]
   by_cases e:p.1=j
   ·rw [uX (p:=(p.1,y)) e,uX e,Option.map_some,if_pos (e.symm.trans h)]
   ·rw [vX (p:=(p.1,y)) e,vX e,ih]
  ·rw [if_neg h]
   by_cases e:p.1=j
   ·rw [uX (p:=p) e,uX e,Option.map_some,if_neg (fun z=>h (e.trans z))]
   ·rw [vX (p:=p) e,vX e,ih]
theorem x4Q (k j:κ) (y:V):∀ kvs:List (κ × V),vZ kvs k=none->vZ (kvs++[(k,y)]) j=if j=k then some y else vZ kvs j
 | [],_=>by
  by_cases e:k=j
  ·rw [if_pos e.symm]; exact uX (p:=(k,y)) e
  ·rw [if_neg (fun z=>e z.symm)]; exact vX (p:=(k,y)) e
 | p :: r,hn=>by
  rw [List.cons_append]
  have hk:¬ p.1=k:=fun z=>by rw [uX z] at hn; cases hn
  rw [vX hk] at hn
  have ih:=x4Q k j y r hn
  by_cases e:p.1=j
  ·rw [uX e,uX e,if_neg (fun z=>hk (e.trans z))]
  ·rw [vX e,vX e,ih]
theorem bJ (kvs:List (κ × V)) (k j:κ) (y:V):vZ (dX kvs k y) j=if j=k then some y else vZ kvs j:=by
 unfold dX
 by_cases a:(kvs.any fun kv=>decide (kv.1=k))=true
 ·rw [if_pos a,i7Q]
  rw [xJ] at a
  by_cases e:j=k
  ·obtain ⟨x,hx⟩:=Option.isSome_iff_exists.mp a
   rw [if_pos e,e,hx,Option.map_some,if_pos rfl]
  ·rw [if_neg e]
   cases vZ kvs j with
   | none=>rfl
   | some x=>rw [Option.map_some,if_neg e]
 ·rw [if_neg a]
  refine x4Q k j y kvs ?_
  rw [xJ] at a
  cases q:vZ kvs k with
  | none=>rfl
  | some x=>rw [q] at a; exact (a rfl).elim
theorem fV (kvs:List (κ × V)) (k:κ) (v:V):(dX kvs k v).length<=kvs.length + 1:=by
 unfold dX
 split
 ·rw [List.length_map]; omega
 ·rw [List.length_append,List.length_cons,List.length_nil]; omega
theorem tY {kvs:List (κ × V)} {k:κ} (v:V) (h:vZ kvs k=none):dX kvs k v=kvs++[(k,v)]:=by
 unfold dX
 rw [xJ,h]
 exact if_neg (by decide)
theorem sY.isSome_eq {o:Option V} {u:Option Value} (r:sY o u):o.isSome=u.isSome:=by
 cases o with
 | none=>cases u with
  | none=>rfl
  | some _=>exact (show False from r).elim
 | some _=>cases u with
  | none=>exact (show False from r).elim
  | some _=>rfl
theorem sY.getD {o:Option V} {u:Option Value} {d:V} {d':Value} (r:sY o u) (rd:qZ d d'):qZ (o.getD d) (u.getD d'):=by
 cases o with
 | none=>cases u with
  | none=>exact rd
  | some _=>exact (show False from r).elim
 | some _=>cases u with
  | none=>exact (show False from r).elim
  | some _=>exact r
theorem KV.val {kvs:List (κ × V)} {vs:List (κ × Value)} (r:KV kvs vs) (k:κ):sY (vZ kvs k) (valueAt vs k):=by
 unfold KV at r
 induction r with
 | nil=>exact True.intro
 | @cons p q ps qs h t ih =>
  obtain ⟨h1,h2⟩:=h
  by_cases e:p.1=k
  ·have e':q.1=k:=h1.symm.trans e
   have b:valueAt (q :: qs) k=some q.2:=by simp [valueAt,List.find?_cons,e']
   rw [uX e,b]; exact h2
  ·have e':¬ q.1=k:=fun z=>e (h1.trans z)
   have b:valueAt (q :: qs) k=valueAt qs k:=by simp [valueAt,List.find?_cons,e']
   rw [vX e,b]; exact ih
theorem KV.any {kvs:List (κ × V)} {vs:List (κ × Value)} (r:KV kvs vs) (k:κ):(kvs.any fun kv=>decide (kv.1=k))=vs.any fun kv=>decide (kv.1=k):=by
 unfold KV at r
 induction r with
 | nil=>rfl
 | cons h t ih=>rw [List.any_cons,List.any_cons,ih,h.1]
theorem KV.repl {kvs:List (κ × V)} {vs:List (κ × Value)} (r:KV kvs vs) (k:κ) {y:V} {u:Value} (ry:qZ y u) :
  KV (kvs.map fun kv=>if kv.1=k then (kv.1,y) else kv) (vs.map fun kv=>if kv.1=k then (kv.1,u) else kv):=by
 unfold KV at r ⊢
 induction r with
 | nil=>exact .nil
 | @cons p q ps qs h t ih =>
  rw [List.map_cons,List.map_cons]
  refine .cons ?_ ih
  obtain ⟨h1,h2⟩:=h
  by_cases e:p.1=k
  ·rw [if_pos e,if_pos (h1.symm.trans e)]; exact ⟨h1,ry⟩
  ·rw [if_neg e,if_neg (fun z=>e (h1.trans z))]; exact ⟨h1,h2⟩
theorem KV.put {kvs:List (κ × V)} {vs:List (κ × Value)} (r:KV kvs vs) (k:κ) {y:V} {u:Value} (ry:qZ y u):KV (dX kvs k y) (stored vs k u):=by
 unfold dX stored
 rw [r.any k]
 by_cases e:(vs.any fun kv=>decide (kv.1=k))=true
 ·rw [if_pos e,if_pos e]; exact r.repl k ry
 ·rw [if_neg e,if_neg e]; exact Paired.snoc r ⟨rfl,ry⟩
theorem KV.keys {kvs:List (κ × V)} {vs:List (κ × Value)} (r:KV kvs vs):kvs.map (·.1)=vs.map (·.1):=by
 unfold KV at r
 induction r with
 | nil=>rfl
 | cons h t ih=>rw [List.map_cons,List.map_cons,ih,h.1]
theorem KV.length {kvs:List (κ × V)} {vs:List (κ × Value)} (r:KV kvs vs):kvs.length=vs.length:=Paired.length r
end
theorem p1Q {P:Program} {w:World} {k:Key} {u:Value} (r:qZ (kV k) u):(fZ P w).is k u=true:=by
 cases k with
 | inl i=>obtain ⟨t,e⟩:=(show ∃ t,u=Value.int i t from r); subst e; exact a7Q P w i t
 | inr x=>obtain ⟨t,e⟩:=(show ∃ t,u=Value.str x t from r); subst e; exact b7Q P w x t
theorem y4Q {P:Program} {w:World}:∀ {ks:List Key} {us:List Value},rZ (ks.map kV) us->ItemsAre (fZ P w) ks us
 | [],_,r=>by rw [List.map_nil] at r; cases r; exact .nil
 | k :: ks,_,r=>by
  rw [List.map_cons] at r
  cases r with
  | cons h t=>exact .cons (p1Q h) (y4Q t)
abbrev KT (H:Hp):List (List Key × V)->List (List Key × Addr × Value)->Prop:=Paired fun p q=>p.1=q.1/\H q.2.1=some (.tup (p.1.map kV))/\qZ p.2 q.2.2
theorem KT.val {H:Hp} {kvs:List (List Key × V)} {xs:List (List Key × Addr × Value)} (r:KT H kvs xs) (k:List Key):sY (vZ kvs k) ((atKey xs k).map (·.2)):=by
 induction r with
 | nil=>exact True.intro
 | @cons p q ps qs h t ih =>
  obtain ⟨h1,_,h2⟩:=h
  by_cases e:p.1=k
  ·have e':q.1=k:=h1.symm.trans e
   have b:atKey (q :: qs) k=some q.2:=by simp [atKey,List.find?_cons,e']
   rw [uX e,b]; exact h2
  ·have e':¬ q.1=k:=fun z=>e (h1.trans z)
   have b:atKey (q :: qs) k=atKey qs k:=by simp [atKey,List.find?_cons,e']
   rw [vX e,b]; exact ih
theorem KT.repl {H:Hp} {kvs:List (List Key × V)} {xs:List (List Key × Addr × Value)} (r:KT H kvs xs) (k:List Key) {y:V} {u:Value} (ry:qZ y u) :
  KT H (kvs.map fun kv=>if kv.1=k then (kv.1,y) else kv) (xs.map (putAt k u)):=by
 induction r with
 | nil=>exact .nil
 | @cons p q ps qs h t ih =>
  rw [List.map_cons,List.map_cons]
  refine .cons ?_ ih
  obtain ⟨h1,h2,h3⟩:=h
  unfold putAt
  by_cases e:p.1=k
  ·rw [if_pos e,if_pos (h1.symm.trans e)]; exact ⟨h1,h2,ry⟩
  ·rw [if_neg e,if_neg (fun z=>e (h1.trans z))]; exact ⟨h1,h2,h3⟩
theorem KT.put {H:Hp} {kvs:List (List Key × V)} {xs:List (List Key × Addr × Value)} (r:KT H kvs xs) (k:List Key) {b:Addr} {y:V} {u:Value} (hb:H b=some (.tup (k.map kV))) (ry:qZ y u) :
  KT H (dX kvs k y) (storedH xs k b u):=by
 have e:(kvs.any fun kv=>decide (kv.1=k))=(atKey xs k).isSome:=by
  rw [xJ,(r.val k).isSome_eq,Option.isSome_map]
 unfold dX storedH
 rw [e]
 by_cases q:(atKey xs k).isSome=true
 ·rw [if_pos q,if_pos q]; exact r.repl k ry
 ·rw [if_neg q,if_neg q]; exact Paired.snoc r ⟨rfl,hb,ry⟩
theorem KT.keeps {H H':Hp} {kvs:List (List Key × V)} {xs:List (List Key × Addr × Value)} (r:KT H kvs xs) (ht:∀ b ys,H b=some (.tup ys)->H' b=some (.tup ys)):KT H' kvs xs:=
 Paired.mapP r fun _ _ z=>⟨z.1,ht _ _ z.2.1,z.2.2⟩
section
variable {P:Program} {w:World} {H:Hp} {h:Heap} {a:Addr}
theorem i4Z {u:HO} (ok:HOk P w H h) (e:Rd H a u):tZ P w H h a u:=e.ok ok
theorem s2Q {kvs:List (Key × V)} (ok:HOk P w H h) (e:Rd H a (.dK kvs)):kvs.length<=sizeLine/\(a == sysModules)=false/\∃ vs,KV kvs vs/\h.DictOf (fZ P w) a vs:=
 show tZ P w H h a (.dK kvs) from i4Z ok e
theorem j7Q {kvs:List (Key × V)} (ok:HOk P w H h) (e:H a=some (.dK kvs)):kvs.length<=sizeLine/\(a == sysModules)=false/\∃ vs,KV kvs vs/\h.DictOf (fZ P w) a vs:=s2Q ok (.inl e)
theorem c1Q {ks:List Key} (ok:HOk P w H h) (e:H a=some (.tup (ks.map kV))):(tupleKind (fZ P w)).is h ks a:=by
 obtain ⟨_,its,r,o,h1,h2,n,h3⟩:=(show tZ P w H h a (.tup (ks.map kV)) from ok a _ e)
 exact ⟨o,its.toArray,n,h1,h2,h3,by simpa using y4Q r⟩
theorem z4Q {kvs:List (List Key × V)} (ok:HOk P w H h) (e:Rd H a (.dT kvs)):kvs.length<=sizeLine/\(a == sysModules)=false /\
  ∃ xs,KT H kvs xs/\h.DictOfH (tupleKind (fZ P w)) a xs:=by
 obtain ⟨z,y,xs,r,o,es,ep,h1,h2,h3,h4,h5⟩:=(show tZ P w H h a (.dT kvs) from i4Z ok e)
 refine ⟨z,y,xs,r,o,es,ep,h1,h2,h3,h4,fun x hx=>?_,h5⟩
 have all:∀ {l:List (List Key × V)} {m:List (List Key × Addr × Value)},KT H l m->∀ x∈m,(tupleKind (fZ P w)).is h x.1 x.2.1:=by
  intro l m q
  induction q with
  | nil=>intro x hx; exact nomatch hx
  | @cons p q ps qs hq t ih =>
   intro x hx
   rcases List.mem_cons.mp hx with e | hx
   ·subst e
    exact c1Q ok (by rw [<-hq.1]; exact hq.2.1)
   ·exact ih x hx
 exact all r x hx
theorem m2X {kvs:List (List Key × V)} (ok:HOk P w H h) (e:H a=some (.dT kvs)):kvs.length<=sizeLine/\(a == sysModules)=false /\
  ∃ xs,KT H kvs xs/\h.DictOfH (tupleKind (fZ P w)) a xs:=z4Q ok (.inl e)
end
def aY (H:Hp) (a:Addr) (y:V) (r:Option V):Prop:=
 (∃ kvs k,Rd H a (.dK kvs)/\y=kV k/\r=vZ kvs k)\/∃ kvs k b,Rd H a (.dT kvs)/\y = .ref b/\H b=some (.tup (k.map kV))/\r=vZ kvs k
def DPut (H:Hp) (a:Addr) (y v:V) (H':Hp):Prop:=
 (∃ kvs k,H a=some (.dK kvs)/\y=kV k/\kvs.length < sizeLine/\H'=upd H a (.dK (dX kvs k v))) \/
 ∃ kvs k b,H a=some (.dT kvs)/\y = .ref b/\H b=some (.tup (k.map kV))/\kvs.length < sizeLine/\H'=upd H a (.dT (dX kvs k v))
theorem aY.k {H:Hp} {a:Addr} {kvs:List (Key × V)} {k:Key} (e:H a=some (.dK kvs)):aY H a (kV k) (vZ kvs k):=.inl ⟨kvs,k,.inl e,rfl,rfl⟩
theorem aY.t {H:Hp} {a b:Addr} {kvs:List (List Key × V)} {k:List Key} (e:H a=some (.dT kvs)) (eb:H b=some (.tup (k.map kV))):aY H a (.ref b) (vZ kvs k):=.inr ⟨kvs,k,b,.inl e,rfl,eb,rfl⟩
theorem DPut.k {H:Hp} {a:Addr} {kvs:List (Key × V)} {k:Key} {v:V} (e:H a=some (.dK kvs)) (hl:kvs.length < sizeLine):DPut H a (kV k) v (upd H a (.dK (dX kvs k v))):=.inl ⟨kvs,k,e,rfl,hl,rfl⟩
section
variable {X:Cx} {pins:List (Addr × Obj)} {σ:St} {H:Hp} {s:Shared} {a:Addr} {y v:V} {u r:Value} {o:Option V} {A:Around} {E:Value->Shared->Prop}
theorem Inv.big (I:Inv X pins σ H s):sysModules < s.heap.objs.size:=by
 have h:mainGlobals < s.heap.objs.size:=(I.mod.glob.keeps I.bk).lt
 exact Nat.lt_trans (by decide) h
theorem a2Z {Q:Value->Shared->Prop} (hu:A.units + 1 < cLine) (I:Inv X pins σ H s) (g:aY H a y (some v)) (ry:qZ y u) (h:∀ w' s',Inv X pins σ H s'->qZ v w'->Q w' s') :
  wpAny (model X.prog X.w) A (getItem (.ref a) u) Q E s:=by
 rcases g with ⟨kvs,k,e,ey,l⟩ | ⟨kvs,k,b,e,ey,eb,l⟩
 ·subst ey
  obtain ⟨z,hd,vs,rel,dd⟩:=s2Q I.hok e
  obtain ⟨w',hw,rw'⟩:=sY.some_of (v:=v) (o:=valueAt vs k) (by rw [l]; exact rel.val k)
  exact wpAny_getItem_of (p1Q ry) dd.mapOf hw (h w' _ (I.tok _) rw')
 ·subst ey
  cases (show u=Value.ref b from ry)
  obtain ⟨z,hd,xs,rel,dd⟩:=z4Q I.hok e
  obtain ⟨w',hw,rw'⟩:=sY.some_of (v:=v) (o:=(atKey xs k).map (·.2)) (by rw [l]; exact rel.val k)
  obtain ⟨p,hp,hp2⟩:=Option.map_eq_some_iff.mp hw
  refine wpAny_getItem_heap (tupleKind_room_in1 hu) (c1Q I.hok eb) dd hp ?_
  rw [hp2]
  exact h w' _ (I.tok _) rw'
theorem u7Z {Q:Value->Shared->Prop} (hu:A.units + 1 < cLine) (I:Inv X pins σ H s) (g:aY H a y o) (ry:qZ y u) (h:∀ s',Inv X pins σ H s'->Q (.bool (!o.isSome)) s') :
  wpAny (model X.prog X.w) A (compareOp .NotIn u (.ref a)) Q E s:=by
 rcases g with ⟨kvs,k,e,ey,l⟩ | ⟨kvs,k,b,e,ey,eb,l⟩
 ·subst ey
  obtain ⟨z,hd,vs,rel,dd⟩:=s2Q I.hok e
  refine wpAny_notIn_of (p1Q ry) hd dd.mapOf ?_
  rw [<-(rel.val k).isSome_eq,<-l]
  exact h _ (I.tok _)
 ·subst ey
  cases (show u=Value.ref b from ry)
  obtain ⟨z,hd,xs,rel,dd⟩:=z4Q I.hok e
  refine wpAny_notIn_heap (tupleKind_room_in1 hu) (c1Q I.hok eb) hd dd ?_
  have q:=(rel.val k).isSome_eq
  rw [Option.isSome_map] at q
  rw [<-q,<-l]
  exact h _ (I.tok _)
theorem c2Q {h':Heap} {t':Nat} {ob:HO} (I:Inv X pins σ H s) (mu:Mut (H a)) (hs:Heap.SameBut a s.heap h') (he:∃ q,h'.get? a=some q) (new:tZ X.prog X.w (upd H a ob) h' a ob) :
  Inv X pins σ (upd H a ob) { s with heap:=h',toks:=t' }:=
 I.write (x:=a) (e:=a) mu (.inl rfl) (fun b q hb z=>(hs.2 b hb).trans z) he new
theorem z5Q {P:Program} {w:World} {H':Hp} {h':Heap} {kvs:List (Key × V)} {vs:List (Key × Value)} (z:kvs.length<=sizeLine) (hd:(a == sysModules)=false) (rel:KV kvs vs) (dd:h'.DictOf (fZ P w) a vs) :
  tZ P w H' h' a (.dK kvs):=⟨z,hd,vs,rel,dd⟩
theorem b2Z {H':Hp} {Q:Unit->Shared->Prop} (hu:A.units + 1 < cLine) (I:Inv X pins σ H s) (g:DPut H a y v H') (ry:qZ y u) (rv:qZ v r) (h:∀ s',Inv X pins σ H' s'->Q () s') :
  wpAny (model X.prog X.w) A (setItem (.ref a) u r) Q E s:=by
 rcases g with ⟨kvs,k,e,ey,l,eH⟩ | ⟨kvs,k,b,e,ey,eb,l,eH⟩
 ·subst ey eH
  obtain ⟨z,hd,vs,rel,dd⟩:=j7Q I.hok e
  have hz:vs.length<=sizeLine:=by rw [<-rel.length]; exact z
  have hl:(dX kvs k v).length<=sizeLine:=by have:=fV kvs k v; omega
  refine wpAny_setItem_pairs (hsz:=hz) (p1Q ry) dd fun h' dd' hs=>h _ ?_
  have he:∃ q,h'.get? a=some q:=let ⟨q,_,_,hq,_⟩:=dd'; ⟨q,hq⟩
  exact c2Q I (by rw [e]; exact True.intro) hs he (z5Q hl hd (rel.put k rv) dd')
 ·subst ey eH
  cases (show u=Value.ref b from ry)
  obtain ⟨z,hd,xs,rel,dd⟩:=m2X I.hok e
  have hz:xs.length<=sizeLine:=by rw [<-Paired.length rel]; exact z
  have hl:(dX kvs k v).length<=sizeLine:=by have:=fV kvs k v; omega
  refine wpAny_setItem_heap (hsz:=hz) (tupleKind_room_in1 hu) (c1Q I.hok eb) dd fun h' dd' hs=>h _ ?_
  obtain ⟨q,es,ep,hq,h2,h3,h4,_,h5⟩:=dd'
  refine c2Q I (by rw [e]; exact True.intro) hs ⟨q,hq⟩ ⟨hl,hd,_,(rel.put k eb rv).keeps fun c ys ec=>?_,q,es,ep,hq,h2,h3,h4,h5⟩
  rw [kQ (zO ec e (fun z=>nomatch z))]
  exact ec
end
section
variable {X:Cx} {pins:List (Addr × Obj)} {σ:St} {H:Hp} {s:Shared} {a:Addr} {kvs:List (Key × V)} {k:Key} {u:Value} {A:Around} {E:Value->Shared->Prop}
end
def NoSl (i:Expr):Prop:=∀ ov iv,subscripted i false ov iv=operate [ov,iv] (getItem ov iv)
theorem k0Z {prog:Program} {w:World} {A:Around} {E:Value->Shared->Prop} {s:Shared} {env:Env} {value slice:Expr} {pos:Pos} {T id:String} {Q:Value->Shared->Prop}
  (hl:typeLookup (.type T) "__getitem__"=pure (some (.builtin id))) (hs:NoSl slice)
  (h:wpAny (model prog w) A (eval value env) (fun o s₁=>wpAny (model prog w) A (eval slice env) (fun i s₂=>s₂.TypeIs o T/\wpAny (model prog w) A (getItem o i) Q E s₂) E s₁) E s) :
  wpAny (model prog w) A (eval (.Subscript value slice pos) env) Q E s:=by
 refine Subscript_ (wpAny_mono h (fun o s₁ h₁=>wpAny_mono h₁ (fun i s₂ h₂=>?_) fun _ _ x=>x) fun _ _ x=>x)
 obtain ⟨hT,h₂⟩:=h₂
 unfold subscriptTail
 refine wpAny_bind ?_
 rw [getitemInPython_of_ne hT.not_modules]
 refine wpAny_bind (wpAny_specialOf hT hl ?_)
 have fin:wpAny (model prog w) A (subscripted slice false o i) (fun r s₃=>wpAny (model prog w) A (letTemporaryGo value o r >>= fun _=>pure r) Q E s₃) E s₂:=by
  rw [hs o i]
  exact wpAny_operating (wpAny_mono h₂ (fun r s₃ h₃=>wpAny_bind (wpAny_letTemporaryGo (wpAny_pure h₃))) fun _ _ x=>x)
 first
  | exact wpAny_pure (wpAny_bind fin)
  | exact wpAny_bind (wpAny_pure (wpAny_bind fin))
  | exact wpAny_bind fin
theorem k7Q {X:Cx} {pins:List (Addr × Obj)} {σ:St} {H:Hp} {s:Shared} {a:Addr} {y:V} {o:Option V} (I:Inv X pins σ H s) (g:aY H a y o):s.TypeIs (.ref a) "dict":=by
 rcases g with ⟨kvs,k,e,_,_⟩ | ⟨kvs,k,b,e,_,_,_⟩
 ·obtain ⟨_,_,vs,_,dd⟩:=s2Q I.hok e
  exact dd.typeIs
 ·obtain ⟨_,_,xs,_,dd⟩:=z4Q I.hok e
  exact dd.typeIs
def x9Z (td ty:TE):TE:=fun σ H Q=>td σ H fun x H1=>ty σ H1 fun y H2=>∃ a v,x = .ref a/\aY H2 a y (some v)/\Q v H2
def v7Z (ty td:TE):TE:=fun σ H Q=>ty σ H fun y H1=>td σ H1 fun x H2=>∃ a o,x = .ref a/\aY H2 a y o/\Q (.bl (!o.isSome)) H2
def n2X (td ty tv:TE):TS:=fun D σ H=>tv σ H fun v H1=>td σ H1 fun x H2=>ty σ H2 fun y H3=>∃ a H4,x = .ref a/\DPut H3 a y v H4/\D.nx σ H4
section
variable {X:Cx} {o i e value:Expr} {pos pos' tpos:Pos} {td ty tv:TE}
theorem aV (hu:X.A.units + 1 < cLine) (ho:PE X o td) (hi:PE X i ty) (hs:NoSl i):PE X (.Subscript o i pos) (x9Z td ty):=by
 intro pins s σ H Q I h
 refine k0Z PySem.F.slot_dict_getitem.lookup hs (thn (ho pins s σ H _ I h) fun u s1 ⟨x,H1,I1,rx,q1⟩=>thn (hi pins s1 σ H1 _ I1 q1) fun iv s2 ⟨y,H2,I2,ry,a,v,ex,g,q2⟩=>?_)
 subst ex
 obtain rfl:u=Value.ref a:=rx
 exact ⟨k7Q I2 g,a2Z hu I2 g ry fun w' s3 I3 rw'=>⟨v,H2,I3,rw',q2⟩⟩
theorem c2Z (hu:X.A.units + 1 < cLine) (hi:PE X i ty) (ho:PE X o td):PC X .NotIn i o (v7Z ty td):=by
 intro pins s σ H Q I h
 refine thn (hi pins s σ H _ I h) fun iv s1 ⟨y,H1,I1,ry,q1⟩=>thn (ho pins s1 σ H1 _ I1 q1) fun u s2 ⟨x,H2,I2,rx,a,ov,ex,g,q2⟩=>?_
 subst ex
 obtain rfl:u=Value.ref a:=rx
 exact u7Z hu I2 g ry fun s3 I3=>⟨.bl (!ov.isSome),H2,I3,rfl,q2⟩
theorem lK (hu:X.A.units + 1 < cLine) (ho:PE X o td) (hi:PE X i ty) (hv:PE X value tv) (hs:swapsWith value (some (.Subscript o i pos')) pos.line X.env=pure false) :
  PS X (.Assign [.Subscript o i pos'] value pos) (n2X td ty tv):=by
 intro pins s σ H D I h
 refine wpAny_Assign_Subscript (thn (hv pins s σ H _ I h) fun r s1 ⟨v,H1,I1,rv,q1⟩=>thn (ho pins s1 σ H1 _ I1 q1) fun u s2 ⟨x,H2,I2,rx,q2⟩=>thn (hi pins s2 σ H2 _ I2 q2) fun iv s3 ⟨y,H3,I3,ry,a,H4,ex,g,q3⟩=>?_) hs
 subst ex
 obtain rfl:u=Value.ref a:=rx
 exact b2Z hu I3 g ry rv fun s4 I4=>⟨σ,H4,I4,q3⟩
end
theorem l7Q {P:Program} {w:World} {H:Hp} (h:Heap) (hb:sysModules < h.objs.size):tZ P w H (h.push { cls:=.type "dict",data:=.dict #[] }) h.objs.size (.dK []):=
 ⟨Nat.zero_le _,beq_eq_false_iff_ne.mpr (Ne.symm (Nat.ne_of_lt hb)),[],.nil,Heap.DictOf.new h⟩
theorem j4Z {P:Program} {w:World} {H:Hp} (h:Heap) (hb:sysModules < h.objs.size):tZ P w H (h.push { cls:=.type "dict",data:=.dict #[] }) h.objs.size (.dT []):=
 ⟨Nat.zero_le _,beq_eq_false_iff_ne.mpr (Ne.symm (Nat.ne_of_lt hb)),[],.nil,_,#[],0,Heap.get?_push_size _ rfl,⟨rfl,rfl,rfl⟩,rfl,rfl,List.nodup_nil⟩
def tDNewK:TE:=fun _ H Q=>∀ p,H p=none->Q (.ref p) (upd H p (.dK []))
def tDNewT:TE:=fun _ H Q=>∀ p,H p=none->Q (.ref p) (upd H p (.dT []))
section
variable {X:Cx} {pos:Pos}
theorem d0Q:PE X (.Dict [] [] pos) tDNewK:=fun pins s σ H Q I h =>
 wpAny_Dict_empty ⟨.ref s.heap.objs.size,_,I.laid (a:=s.heap.objs.size) (o:=.dK []) (t':=s.toks) (fun _ _ q=>Heap.get?_push_of_some _ q) (Nat.le_refl _) (l7Q s.heap I.big),rfl,h _ (I.hok.fresh (Nat.le_refl _))⟩
theorem m7Q:PE X (.Dict [] [] pos) tDNewT:=fun pins s σ H Q I h =>
 wpAny_Dict_empty ⟨.ref s.heap.objs.size,_,I.laid (a:=s.heap.objs.size) (o:=.dT []) (t':=s.toks) (fun _ _ q=>Heap.get?_push_of_some _ q) (Nat.le_refl _) (j4Z s.heap I.big),rfl,h _ (I.hok.fresh (Nat.le_refl _))⟩
end
def c9Q:List (TE × TE)->St->Hp->(List (V × V)->Hp->Prop)->Prop
 | [],_,H,Q=>Q [] H
 | (tk,tv) :: r,σ,H,Q=>tk σ H fun x H1=>tv σ H1 fun y H2=>c9Q r σ H2 fun ps H3=>Q ((x,y) :: ps) H3
abbrev VV:List (V × V)->List (Value × Value)->Prop:=Paired fun p q=>qZ p.1 q.1/\qZ p.2 q.2
def PPs (X:Cx) (pos:Pos) (keys:List (Option Expr)) (values:List Expr) (trs:List (TE × TE)):Prop:=
 ∀ (pins:List (Addr × Obj)) (s:Shared) (σ:St) (H:Hp) (Q:List (V × V)->Hp->Prop),Inv X pins σ H s->c9Q trs σ H Q ->
  wpAny (model X.prog X.w) X.A (evalPairs (pairTrees keys values X.env pos)) (fun vs s'=>∃ ps H',Inv X pins σ H' s'/\VV ps vs/\Q ps H') X.xe s
theorem w7Z {X:Cx} {pos:Pos}:PPs X pos [] [] []:=fun pins s σ H Q I h=>pairTrees_nil_walk ⟨[],H,I,.nil,h⟩
theorem k4Z {X:Cx} {pos:Pos} {k v:Expr} {ks:List (Option Expr)} {vs:List Expr} {tk tv:TE} {trs:List (TE × TE)} (hk:PE X k tk) (hv:PE X v tv) (hr:PPs X pos ks vs trs) :
  PPs X pos (some k :: ks) (v :: vs) ((tk,tv) :: trs):=fun pins s σ H Q I h =>
 pairTrees_cons_walk (thn (hk pins s σ H _ I h) fun u s1 ⟨x,H1,I1,rx,q1⟩=>thn (hv pins s1 σ H1 _ I1 q1) fun w2 s2 ⟨y,H2,I2,ry,q2⟩ =>
  thn (hr pins s2 σ H2 _ I2 q2) fun ws s3 ⟨ps,H3,I3,rel,q3⟩=>⟨(x,y) :: ps,H3,I3,.cons ⟨rx,ry⟩ rel,q3⟩)
def t2Q (kvs more:List (Key × V)):List (Key × V):=more.foldl (fun acc kv=>dX acc kv.1 kv.2) kvs
theorem KV.merge:∀ {more:List (Key × V)} {rs:List (Key × Value)} {kvs:List (Key × V)} {vs:List (Key × Value)},KV more rs->KV kvs vs->KV (t2Q kvs more) (merged vs rs):=by
 intro more rs kvs vs r
 unfold KV at r
 induction r generalizing kvs vs with
 | nil=>intro q; exact q
 | @cons p q ps qs h t ih =>
  intro r0
  have e:KV (dX kvs p.1 p.2) (stored vs q.1 q.2):=by
   have:=r0.put p.1 h.2
   rw [<-h.1]; exact this
  exact ih e
theorem jO:∀ (more kvs:List (Key × V)),(t2Q kvs more).length<=kvs.length + more.length
 | [],kvs=>by show kvs.length<=kvs.length + 0; omega
 | p :: r,kvs=>by
  have h1:=jO r (dX kvs p.1 p.2)
  have h2:=fV kvs p.1 p.2
  show (t2Q (dX kvs p.1 p.2) r).length<=_
  rw [List.length_cons]; omega
theorem u2Q {P:Program} {w:World}:∀ {kvs:List (Key × V)} {ws:List (Value × Value)},VV (kvs.map fun kv=>(kV kv.1,kv.2)) ws->∃ rs,Carries (fZ P w) ws rs/\KV kvs rs
 | [],_,r=>by rw [List.map_nil] at r; cases r; exact ⟨[],True.intro,.nil⟩
 | p :: kvs,_,r=>by
  rw [List.map_cons] at r
  cases r with
  | @cons a b as bs h t =>
   obtain ⟨rs,c,q⟩:=u2Q (P:=P) (w:=w) t
   obtain ⟨b1,b2⟩:=b
   exact ⟨(p.1,b2) :: rs,⟨p1Q h.1,rfl,c⟩,.cons ⟨rfl,h.2⟩ q⟩
def o2X (trs:List (TE × TE)):TE:=fun σ H Q=>∀ p,H p=none->c9Q trs σ (upd H p (.dK [])) fun ps H2=>H2 p=some (.dK [])/\∃ kvs:List (Key × V),ps=kvs.map (fun kv=>(kV kv.1,kv.2))/\kvs.length<=15/\Q (.ref p) (upd H2 p (.dK (t2Q [] kvs)))
theorem x7Z {X:Cx} {pos:Pos} {keys:List (Option Expr)} {values:List Expr} {trs:List (TE × TE)} (h:PPs X pos keys values trs) (hall:keys.all (·.isSome)=true) (hl:keys.length=values.length) (h0:keys≠[])
  (h15:keys.length<=15):PE X (.Dict keys values pos) (o2X trs):=by
 intro pins s σ H Q I q
 have hn:=I.hok.fresh (Nat.le_refl s.heap.objs.size)
 have I1:=I.laid (a:=s.heap.objs.size) (o:=.dK []) (h':=s.heap.push { cls:=.type "dict",data:=.dict #[] }) (t':=s.toks) (fun _ _ q=>Heap.get?_push_of_some _ q) (Nat.le_refl _) (l7Q s.heap I.big)
 refine wpAny_Dict_walk (knd:=fZ X.prog X.w) hall hl h0 h15 (thn (h pins _ σ _ _ I1 (q _ hn)) fun ws s2 hh=>?_)
 obtain ⟨ps,H2,I2,rel,e,kvs,ep,lk,q2⟩:=hh
 subst ep
 obtain ⟨rs,c,rk⟩:=u2Q (P:=X.prog) (w:=X.w) rel
 obtain ⟨z,hd,vs0,r0,dd⟩:=j7Q I2.hok e
 cases r0
 refine ⟨rs,c,dd,fun h' dd' hs=>⟨.ref s.heap.objs.size,_,?_,rfl,q2⟩⟩
 have hz:(t2Q [] kvs).length<=sizeLine:=by
  have h1:=jO kvs []
  rw [List.length_nil] at h1
  rw [sizeLine_eq]; omega
 have he:∃ q,h'.get? s.heap.objs.size=some q:=let ⟨q,_,_,hq,_⟩:=dd'; ⟨q,hq⟩
 exact c2Q I2 (by rw [e]; exact True.intro) hs he (z5Q hz hd (rk.merge .nil) dd')
structure M2 (X:Cx) (o:Expr) (m:Str) (apos:Pos) (e f:Expr) (cpos:Pos):Prop where
 base:attributeBase o m X.env (eval o X.env)=eval o X.env
 few:((backTo cpos (starEach [e,f] X.env)).all (fun x=>!x.1) && (backToKw cpos (keywordEach [] X.env)).all (fun x=>x.1.isSome)
  && decide (([e,f]:List Expr).length + ([]:List Keyword).length + (if ([]:List Keyword).isEmpty then 0 else 1) < 30))=true
 line:(apos.endLine == cpos.line)=true
 trees:backTo cpos (starEach [e,f] X.env)=[(false,eval e X.env),(false,eval f X.env)]
def IsD (H:Hp) (a:Addr):Prop:=(∃ kvs,Rd H a (.dK kvs))\/∃ kvs,Rd H a (.dT kvs)
theorem t0X {X:Cx} {pins:List (Addr × Obj)} {σ:St} {H:Hp} {s:Shared} {a:Addr} (I:Inv X pins σ H s) (d:IsD H a) :
  s.TypeIs (.ref a) "dict"/\(∀ b,Value.ref a = .ref b->∃ ob,s.heap.get? b=some ob/\ob.dict=none)/\(a == sysModules)=false:=by
 rcases d with ⟨kvs,e⟩ | ⟨kvs,e⟩
 ·obtain ⟨_,hd,vs,_,dd⟩:=s2Q I.hok e
  refine ⟨dd.typeIs,fun b q=>?_,hd⟩
  cases q
  obtain ⟨ob,_,_,h1,h2,_⟩:=dd
  exact ⟨ob,h1,h2.2.1⟩
 ·obtain ⟨_,hd,xs,_,dd⟩:=z4Q I.hok e
  refine ⟨dd.typeIs,fun b q=>?_,hd⟩
  cases q
  obtain ⟨ob,_,_,h1,h2,_⟩:=dd
  exact ⟨ob,h1,h2.2.1⟩
section
variable {X:Cx} {pins:List (Addr × Obj)} {σ:St} {H:Hp} {s:Shared} {a:Addr} {y d:V} {u r:Value} {o:Option V} {A:Around} {E:Value->Shared->Prop}
theorem u0X {Q:Value->Shared->Prop} (hu:A.units + 1 < cLine) (I:Inv X pins σ H s) (g:aY H a y o) (ry:qZ y u) (rd:qZ d r) (h:∀ w' s',Inv X pins σ H s'->qZ (o.getD d) w'->Q w' s') :
  wpAny (model X.prog X.w) A (call (.builtin "dict.get") [.ref a,u,r]) Q E s:=by
 rcases g with ⟨kvs,k,e,ey,l⟩ | ⟨kvs,k,b,e,ey,eb,l⟩
 ·subst ey
  obtain ⟨z,hd,vs,rel,dd⟩:=s2Q I.hok e
  refine call_meetsIn PySem.F.slot_dict_get dd.typeIs PySem.F.entry_dict_get (PySem.F.args_dict_get_3 _ _ _) (meets_dict_get_default (fZ X.prog X.w) a (p1Q ry) hd r) ⟨_,dd.mapOf,h _ _ (I.tok _) ?_⟩
  rw [l]
  exact (rel.val k).getD rd
 ·subst ey
  cases (show u=Value.ref b from ry)
  obtain ⟨z,hd,xs,rel,dd⟩:=z4Q I.hok e
  refine call_meetsIn PySem.F.slot_dict_get dd.typeIs PySem.F.entry_dict_get (PySem.F.args_dict_get_3 _ _ _) (meetsH_dict_get_default (tupleKind (fZ X.prog X.w)) a b hd r) ⟨tupleKind_room_in1 hu,k,xs,c1Q I.hok eb,dd,h _ _ (I.tok _) ?_⟩
  rw [l]
  exact (rel.val k).getD rd
end
def v0X (td ty tx:TE):TE:=fun σ H Q=>td σ H fun x H1=>∃ a,x = .ref a/\IsD H1 a/\ty σ H1 fun y H2=>tx σ H2 fun z H3=>∃ o,aY H3 a y o/\Q (o.getD z) H3
section
variable {X:Cx} {o e f:Expr} {apos cpos:Pos} {td ty tx:TE}
theorem n7Q (hu:X.A.units + 1 < cLine) (ho:PE X o td) (he:PE X e ty) (hf:PE X f tx) (m:M2 X o "get" apos e f cpos):PE X (.Call (.Attribute o "get" apos) [e,f] [] cpos) (v0X td ty tx):=by
 intro pins s σ H Q I h
 refine wpAny_Call_method m.base m.few m.line PySem.F.plainAttrs_dict PySem.F.slot_dict_get PySem.F.type_dict_get (thn (ho pins s σ H _ I h) fun u s1 hh=>?_)
 obtain ⟨x,H1,I1,rx,a,ex,d,q1⟩:=hh
 subst ex
 obtain rfl:u=Value.ref a:=rx
 obtain ⟨t1,t2,_⟩:=t0X I1 d
 refine ⟨t1,t2,?_⟩
 rw [m.trees]
 refine Calls.callWith_builtin rfl (Calls.evalArgs_plain (Calls.spliced_cons (thn (he pins s1 σ H1 _ I1 q1) fun iv s2 ⟨y,H2,I2,ry,q2⟩ =>
  Calls.spliced_cons (thn (hf pins s2 σ H2 _ I2 q2) fun fv s3 ⟨z,H3,I3,rz,ov,g,q3⟩=>Calls.spliced_nil ?_))))
 exact u0X hu I3 g ry rz fun w' s4 I4 rw'=>⟨_,H3,I4,rw',q3⟩
end
section
variable {X:Cx} {pins:List (Addr × Obj)} {σ:St} {H:Hp} {s:Shared} {a:Addr} {kvs:List (Key × V)} {A:Around} {E:Value->Shared->Prop}
theorem l4Z {Q:Value->Shared->Prop} (I:Inv X pins σ H s) (e:Rd H a (.dK kvs)) (h:∀ p s',H p=none->Inv X pins σ (upd H p (.dK kvs)) s'->Q (.ref p) s'):wpAny (model X.prog X.w) A (call (.type "dict") [.ref a]) Q E s:=by
 obtain ⟨z,hd,vs,rel,dd⟩:=s2Q I.hok e
 refine kt_call_dict hd dd (by rw [<-rel.length]; exact z) fun h' dd' hs=>?_
 refine h _ _ (I.hok.fresh (Nat.le_refl _)) (I.laid (a:=s.heap.objs.size) (o:=.dK kvs) (t':=s.toks) (fun b q hq=>?_) (Nat.le_refl _) (z5Q z (beq_eq_false_iff_ne.mpr (Ne.symm (Nat.ne_of_lt I.big))) rel dd'))
 exact (hs.2 b (Nat.ne_of_lt (Heap.lt_size hq))).trans (Heap.get?_push_of_some _ hq)
end
section
variable {X:Cx} {pins:List (Addr × Obj)} {σ:St} {H:Hp} {s:Shared} {a:Addr} {y:V} {u:Value} {A:Around} {E:Value->Shared->Prop}
end
end L2
namespace HT
open PySem PyProof.Rows
def lexLt:List Int->List Int->Bool
 | [],[]=>false
 | [],_ :: _=>true
 | _ :: _,[]=>false
 | x :: xs,y :: ys=>if x=y then lexLt xs ys else decide (x < y)
theorem d9Q (x y:Int) (xs ys:List Int):lexLt (x :: xs) (y :: ys)=if x=y then lexLt xs ys else decide (x < y):=rfl
theorem i4Q:lexLt [] []=false:=rfl
theorem v2Q (y:Int) (ys:List Int):lexLt [] (y :: ys)=true:=rfl
theorem w2Q (x:Int) (xs:List Int):lexLt (x :: xs) []=false:=rfl
theorem m4Z (A:Around) (s:Shared) (a:Int) (t:Tok) (c:Int) (u:Tok):∃ e,SeqAt.EqAt A s (.int a t) (.int c u) e/\(e=true ↔ a=c):=
 ⟨(a == c),SeqAt.EqAt.int_int a t c u,by simp⟩
theorem n4Z (A:Around) (s:Shared) (a:Int) (t:Tok) (c:Int) (u:Tok) (prog:Program) (w:World) (E:Value->Shared->Prop) (Q:Value->Shared->Prop) (h:Q (.bool (decide (a < c))) s) :
  wpAny (model prog w) A (richCompare .Lt (.int a t) (.int c u)) Q E s:=
 (PyProof.Rows.lt_int h:wpAny (model prog w) A (compareOp .Lt (.int a t) (.int c u)) Q E s)
section
open PySem.SeqAt
open PySem.AutoSeq1 (wpAny_loadPart')
open PySem.MeetsSeq PySem.MeetsSeq2 PySem.MeetsSeq3
theorem j4Q (l b:Addr) (items items2:Array Value) (n n2:Nat) (dd dd2:Option Addr) (sl sl2:Array (Option Value)) (ns ms:List Int) (hi:IntsAre items.toList ns) (hj:IntsAre items2.toList ms) :
  Meets (Builtin.«tuple.__lt__» ⟨[.ref l,.ref b],[]⟩)
   (fun _ R s=>s.heap.get? l=some { cls:=.type "tuple",dict:=dd,data:=.seq items n,slots:=sl }/\s.heap.get? b=some { cls:=.type "tuple",dict:=dd2,data:=.seq items2 n2,slots:=sl2 } /\
    R (.ok (.ret (.bool (lexLt ns ms)))) s):=
 .of_wp fun prog w A R s h=>by
  obtain ⟨hp,g,d,tk,os⟩:=s; obtain ⟨hl,hb,h⟩:=h
  have f2:=AutoSeq1.sub_tuple_tuple
  have z1:items.size=ns.length:=by rw [<-hi.length]; simp
  have z2:items2.size=ms.length:=by rw [<-hj.length]; simp
  wp_walk using wpAny_loadPart' hl,wpAny_loadPart' hb,wpAny_forIn_list _ (fun rest b s'=>b.1=none/\s'=⟨hp,g,d,tk,os⟩/\∃ (vs ws:List Value) (ns' ms':List Int),rest=vs.zip ws /\
   IntsAre vs ns'/\IntsAre ws ms'/\ns'.length + items2.size=ms'.length + items.size/\R (.ok (.ret (.bool (lexLt ns' ms')))) ⟨hp,g,d,tk,os⟩) _
  case turn =>
   rintro ⟨y,x⟩ rest b s' ⟨hb',rfl,vs,ws,ns',ms',hz,hvi,hwi,hlen,hR⟩
   cases hvi with
   | nil=>rw [List.zip_nil_left] at hz; cases hz
   | cons a t hvi' =>
    cases hwi with
    | nil=>rw [List.zip_nil_right] at hz; cases hz
    | cons c u hwi' =>
     rw [List.zip_cons_cons] at hz
     injection hz with hyx hrest
     injection hyx with hy hx
     subst hy hx
     rw [d9Q] at hR
     simp only [List.length_cons] at hlen
     obtain ⟨e,he,hiff⟩:=m4Z A.in1 ⟨hp,g,d,tk,os⟩ a t c u
     refine wpAny_bind (he prog w _ _ ?_)
     cases e with
     | true =>
      rw [if_pos (hiff.mp rfl)] at hR
      wp_walk
      exact ⟨rfl,rfl,_,_,_,_,hrest,hvi',hwi',by omega,hR⟩
     | false =>
      rw [if_neg (fun q=>absurd (hiff.mpr q) Bool.false_ne_true)] at hR
      have hri:=n4Z A.in1 ⟨hp,g,d,tk,os⟩ a t c u prog w
      wp_walk using hri
      exact ⟨_,rfl,by simpa using hR⟩
  case fin =>
   rintro ⟨b1,b2⟩ s' ⟨hb',rfl,vs,ws,ns',ms',hz,hvi,hwi,hlen,hR⟩
   simp only at hb'
   subst hb'
   have hv:lexLt ns' ms'=decide (items.size < items2.size):=by
    cases hvi with
    | nil =>
     cases hwi with
     | nil =>
      simp only [List.length_nil] at hlen
      rw [i4Q]
      exact (decide_eq_false (by omega)).symm
     | cons c u hw =>
      simp only [List.length_nil,List.length_cons] at hlen
      rw [v2Q]
      exact (decide_eq_true (by omega)).symm
    | cons a t hv =>
     cases hwi with
     | nil =>
      simp only [List.length_nil,List.length_cons] at hlen
      rw [w2Q]
      exact (decide_eq_false (by omega)).symm
     | cons c u hw =>
      rw [List.zip_cons_cons] at hz
      cases hz
   rw [hv] at hR
   wp_walk
   exact ⟨_,rfl,by simpa [Builtin.Tuple.tupleCompareSizes] using hR⟩
  case h =>
   exact ⟨rfl,rfl,items.toList,items2.toList,ns,ms,rfl,hi,hj,by omega,h⟩
end
section
variable {prog:Program} {w:World} {A:Around} {E:Value->Shared->Prop} {s:Shared}
theorem lt_tupInts {l b:Addr} {items items2:Array Value} {ns ms:List Int} {Q:Value->Shared->Prop} (hl:IsTup s.heap l items) (hb:IsTup s.heap b items2) (hi:IntsAre items.toList ns) (hj:IntsAre items2.toList ms)
  (hu:A.units < cLine) (h:Q (.bool (lexLt ns ms)) s):wpAny (model prog w) A (compareOp .Lt (.ref l) (.ref b)) Q E s:=by
 obtain ⟨⟨cls,dd,data,sl⟩,ho,hc,n,hd⟩:=id hl
 obtain ⟨⟨cls2,dd2,data2,sl2⟩,ho2,hc2,n2,hd2⟩:=id hb
 simp only at hc hd hc2 hd2
 subst hc hd hc2 hd2
 exact richCompare_meets_room (op:=.Lt) ⟨_,ho,rfl⟩ ⟨_,ho2,rfl⟩ PySem.F.slot_tuple_lt PySem.F.entry_tuple_lt (PySem.F.args_tuple_lt_2 _ _) (j4Q l b items items2 n n2 dd dd2 sl sl2 ns ms hi hj)
  ⟨ho,ho2,show Value.bool (lexLt ns ms)≠Value.notImplemented/\Q (.bool (lexLt ns ms)) s from ⟨(fun x=>nomatch x),h⟩⟩ hu
theorem cat_tup {t b:Addr} {vs ws:List Value} {Q:Value->Shared->Prop} (ht:IsTup s.heap t vs.toArray) (hb:IsTup s.heap b ws.toArray) (hv:vs≠[])
  (h1:ws=[]->Q (.ref t) s) (h2:ws≠[]->Q (.ref s.heap.objs.size) { s with heap:=s.heap.push { cls:=.type "tuple",data:=.seq (vs++ws).toArray } })
  (hsz:vs.length + ws.length<=sizeLine):wpAny (model prog w) A (binaryOp .Add (.ref t) (.ref b)) Q E s:=by
 obtain ⟨⟨cls,dd,data,sl⟩,ho,hc,n,hd⟩:=id ht
 obtain ⟨⟨cls2,dd2,data2,sl2⟩,ho2,hc2,n2,hd2⟩:=id hb
 simp only at hc hd hc2 hd2
 subst hc hd hc2 hd2
 have e:vs.toArray++ws.toArray=(vs++ws).toArray:=by simp
 by_cases hw:ws=[]
 ·exact concat_meets ⟨_,ho,rfl⟩ ⟨_,ho2,rfl⟩ noFill_tuple_add seq_tuple_add PySem.F.slot_tuple_add PySem.F.entry_tuple_add (PySem.F.args_tuple_add_2 _ _)
   (tuple_addW1 t b vs.toArray ws.toArray n n2 dd dd2 sl sl2 (by simpa using hv) (by simp [hw])) ⟨ho,ho2,h1 hw⟩
 ·refine concat_meets ⟨_,ho,rfl⟩ ⟨_,ho2,rfl⟩ noFill_tuple_add seq_tuple_add PySem.F.slot_tuple_add PySem.F.entry_tuple_add (PySem.F.args_tuple_add_2 _ _)
   (tuple_addW2 t b vs.toArray ws.toArray n n2 dd dd2 sl sl2 (by simpa using hv) (by simpa using hw) (by rw [List.size_toArray,List.size_toArray]; exact hsz)) ⟨ho,ho2,?_⟩
  rw [e]
  exact h2 hw
def sIx (n d:Nat):Option Int->Nat
 | none=>d
 | some v=>if v < 0 then (v + (n:Int)).toNat else min v.toNat n
theorem sIx_none (n d:Nat):sIx n d none=d:=rfl
theorem sIx_nat (n d k:Nat):sIx n d (some (k:Int))=min k n:=by
 show (if (k:Int) < 0 then ((k:Int) + (n:Int)).toNat else min (k:Int).toNat n)=min k n
 rw [if_neg (by omega),Int.toNat_natCast]
theorem w0X (n d:Nat) (hd:d<=n) (o:Option Int):sIx n d o<=n:=by
 cases o with
 | none=>exact hd
 | some v =>
  show (if v < 0 then (v + (n:Int)).toNat else min v.toNat n)<=n
  by_cases hv:v < 0
  ·rw [if_pos hv]; omega
  ·rw [if_neg hv]; exact Nat.min_le_right _ _
theorem l0Z (v:Int) (n d:Nat):(if v < 0 then max (v + (n:Int)) 0 else min v (n:Int))=((sIx n d (some v):Nat):Int):=by
 show (if v < 0 then max (v + (n:Int)) 0 else min v (n:Int))=(((if v < 0 then (v + (n:Int)).toNat else min v.toNat n):Nat):Int)
 by_cases hv:v < 0
 ·simp only [if_pos hv]; omega
 ·simp only [if_neg hv]; omega
theorem e9Q (lo hi:Option Int) (n:Nat):Builtin.Slice.sliceAdjust lo hi 1 (n:Int)=(((sIx n 0 lo:Nat):Int),((sIx n n hi:Nat):Int)):=by
 have h1:¬ ((1:Int) < 0):=by omega
 unfold Builtin.Slice.sliceAdjust
 simp only [h1,if_false]
 refine Prod.ext ?_ ?_
 ·cases lo with
  | none=>rfl
  | some v=>exact l0Z v n 0
 ·cases hi with
  | none=>rfl
  | some v=>exact l0Z v n n
theorem f9Q (i j:Nat):Builtin.Slice.slicePlaces (i:Int) (j:Int) 1=j - i:=by
 unfold Builtin.Slice.slicePlaces
 have h1:(1:Int) > 0:=by omega
 simp only [h1,if_true,Int.ediv_one]
 split <;> omega
theorem x2Q {v:Value} {o:Option Int} {Q:Option Int->Shared->Prop} (p:IsPart v o) (h:Q o s):wpAny (model prog w) A (Builtin.Slice.slicePartIndex v) Q E s:=by
 cases p with
 | none=>exact slicePart_none h
 | int i t=>exact slicePart_int h
theorem d1Q {sl:Addr} {vl vu:Value} {lo hi:Option Int} {n:Nat} {Q:Int × Int × Nat->Shared->Prop} (hs:s.heap.IsSliceOf sl vl vu .none) (pl:IsPart vl lo) (pu:IsPart vu hi)
  (h:Q (((sIx n 0 lo:Nat):Int),1,sIx n n hi - sIx n 0 lo) s):wpAny (model prog w) A (Builtin.Slice.sliceApplied (.ref sl) (pure (n:Int))) Q E s:=by
 obtain ⟨os,hos,hcs,hds⟩:=id hs
 unfold Builtin.Slice.sliceApplied Builtin.Slice.sliceFields
 refine wpAny_bind (wpAny_bind (wpAny_field hos hds (x:=vl) rfl (wpAny_bind (wpAny_field hos hds (x:=vu) rfl (wpAny_bind (wpAny_field hos hds (x:=.none) rfl (wpAny_pure ?_)))))))
 refine wpAny_bind (slicePart_none ?_)
 show wpAny _ _ (if ((1:Int) == 0)=true then _ else _) _ _ s
 rw [if_neg (by decide)]
 refine wpAny_bind (x2Q pl (wpAny_bind (x2Q pu (wpAny_bind (wpAny_pure ?_)))))
 show wpAny _ _ (match Builtin.Slice.sliceAdjust lo hi 1 (n:Int) with | (lo,hi)=>pure (lo,(1:Int),Builtin.Slice.slicePlaces lo hi 1)) _ _ s
 rw [e9Q lo hi n]
 show wpAny _ _ (pure (((sIx n 0 lo:Nat):Int),(1:Int),Builtin.Slice.slicePlaces ((sIx n 0 lo:Nat):Int) ((sIx n n hi:Nat):Int) 1)) _ _ s
 rw [f9Q]
 exact wpAny_pure h
theorem o4Z (xs:Array Value) (i k:Nat):((List.range k).filterMap fun (m:Nat)=>xs[((i:Int) + (m:Int) * 1).toNat]?).toArray=((xs.toList.drop i).take k).toArray:=by
 have e:(fun (m:Nat)=>xs[((i:Int) + (m:Int) * 1).toNat]?)=fun m=>xs[i + m]?:=by
  funext m
  have:((i:Int) + (m:Int) * 1).toNat=i + m:=by omega
  rw [this]
 rw [e]
 have:=pick_run xs i k
 rw [List.filterMap_map] at this
 have e2:((fun x=>xs[x]?) ∘ fun x=>i + x)=fun m=>xs[i + m]?:=rfl
 rw [e2] at this
 rw [this]
theorem getItem_tuple_cut {t sl:Addr} {items:Array Value} {vl vu:Value} {lo hi:Option Int} {Q:Value->Shared->Prop} (ht:IsTup s.heap t items) (hs:s.heap.IsSliceOf sl vl vu .none) (pl:IsPart vl lo) (pu:IsPart vu hi)
  (hw:¬ (sIx items.size 0 lo=0/\sIx items.size items.size hi=items.size))
  (h:Q (.ref s.heap.objs.size) { s with heap:=s.heap.push { cls:=.type "tuple",data:=.seq ((items.toList.drop (sIx items.size 0 lo)).take (sIx items.size items.size hi - sIx items.size 0 lo)).toArray } })
  (hsz:items.size<=sizeLine):wpAny (model prog w) A (getItem (.ref t) (.ref sl)) Q E s:=by
 have htake:sizeOk (.seq ((items.toList.drop (sIx items.size 0 lo)).take (sIx items.size items.size hi - sIx items.size 0 lo)).toArray):=by
  show ((items.toList.drop (sIx items.size 0 lo)).take (sIx items.size items.size hi - sIx items.size 0 lo)).toArray.size<=sizeLine
  rw [List.size_toArray,List.length_take,List.length_drop,Array.length_toList]
  omega
 have hj:sIx items.size items.size hi<=items.size:=w0X _ _ (Nat.le_refl _) hi
 obtain ⟨os,hos,hcs,hds⟩:=id hs
 have hTs:s.TypeIs (.ref sl) "slice":=⟨os,hos,hcs⟩
 unfold getItem
 try with_reducible refine wpAny_holding ?_
 first | refine wpAny_bind (wpAny_pure ?_) | skip
 refine wpAny_bind (wpAny_sequenceKey ht.typeIs (by decide) ?_)
 refine wpAny_bind (wpAny_callSpecial?_slot (name:=Str.ofString "__getitem__") ht.typeIs PyProof.Rows.slot_tuple_getitem
  (wpAny_call_entry PyProof.Rows.slot_tuple_getitem ht.typeIs entry_tuple_getitem ?_ (args_tuple_getitem _ _)))
 show wpAny _ _ (Builtin.Tuple.tupleItemsOf (.ref t) >>= _) _ _ s
 refine wpAny_bind (tupleItemsOf_ ht ?_)
 refine wpAny_bind (wpAny_typeOf hTs ?_)
 rw [if_pos (by decide)]
 refine wpAny_bind (d1Q hs pl pu ?_)
 have hno:¬ ((((sIx items.size 0 lo:Nat):Int) == 0 && (1:Int) == 1 && (sIx items.size items.size hi - sIx items.size 0 lo) == items.size)=true):=by
  intro q
  rw [Bool.and_eq_true,Bool.and_eq_true] at q
  have q1:((sIx items.size 0 lo:Nat):Int)=0:=eq_of_beq q.1.1
  have q2:sIx items.size items.size hi - sIx items.size 0 lo=items.size:=eq_of_beq q.2
  exact hw ⟨by omega,by omega⟩
 show wpAny _ _ (if (((sIx items.size 0 lo:Nat):Int) == 0 && (1:Int) == 1 && (sIx items.size items.size hi - sIx items.size 0 lo) == items.size)=true then _ else _) _ _ s
 rw [if_neg hno,o4Z]
 first
  | exact wpAny_bind (m:=Builtin.Tuple.tupleExact _) (wpAny_newObj_type (wpAny_pure ⟨_,rfl,wpAny_pure h⟩) htake)
  | exact wpAny_bind (m:=Builtin.Tuple.tupleExact _) (wpAny_newObj_type (wpAny_bind (wpAny_pure (wpAny_pure ⟨_,rfl,wpAny_pure h⟩))) htake)
  | exact wpAny_bind (wpAny_bind (m:=Builtin.Tuple.tupleExact _) (wpAny_newObj_type (wpAny_pure (wpAny_pure ⟨_,rfl,wpAny_pure h⟩)) htake))
  | exact wpAny_bind (wpAny_bind (m:=Builtin.Tuple.tupleExact _) (wpAny_newObj_type (wpAny_pure ⟨_,rfl,wpAny_pure h⟩) htake))
end
end HT
namespace L2
open PySem PySem.Spec PyProof.Rows
abbrev TO:=St->Hp->(Option Int->Hp->Prop)->Prop
def PO (X:Cx) (e:Option Expr) (t:TO):Prop:=
 ∀ (pins:List (Addr × Obj)) (s:Shared) (σ:St) (H:Hp) (Q:Option Int->Hp->Prop),Inv X pins σ H s->t σ H Q ->
  wpAny (model X.prog X.w) X.A (evalPart e X.env) (fun u s'=>∃ o H',Inv X pins σ H' s'/\IsPart u o/\Q o H') X.xe s
def tNoPart:TO:=fun _ H Q=>Q none H
def o7Q (t:TE):TO:=fun σ H Q=>t σ H fun x H1=>∃ i,x = .int i/\Q (some i) H1
theorem y2Q {ns:List Int}:∀ {us:List Value},rZ (ns.map V.int) us->IntsAre us ns:=by
 induction ns with
 | nil=>intro us r; rw [List.map_nil] at r; cases r; exact .nil
 | cons n ns ih =>
  intro us r
  rw [List.map_cons] at r
  cases r with
  | cons r1 r2 =>
   obtain ⟨t,e⟩:=r1
   subst e
   exact .cons n t (ih r2)
section
variable {X:Cx} {e:Expr} {te:TE} {lo hi:Option Expr} {tl th:TO} {pos p2:Pos}
theorem d2Q:PO X none tNoPart:=by
 intro pins s σ H Q I h
 rw [evalPart_none]
 exact wpAny_pure ⟨none,H,I,.none,h⟩
theorem yU (h:PE X e te):PO X (some e) (o7Q te):=by
 intro pins s σ H Q I hw
 rw [evalPart_some]
 refine thn (h pins s σ H _ I hw) fun u s1 hh=>?_
 obtain ⟨x,H1,I1,r1,q1⟩:=hh
 obtain ⟨i,rfl,q⟩:=q1
 obtain ⟨t,rfl⟩:=r1
 exact ⟨some i,H1,I1,.int i t,q⟩
def SlR (X:Cx) (r:V->Option Int->Option Int->Hp->VK->Prop):Prop:=
 ∀ (pins:List (Addr × Obj)) (s:Shared) (σ:St) (H:Hp) (x:V) (v vl vu:Value) (lo hi:Option Int) (sl:Addr) (Q:VK),Inv X pins σ H s->qZ x v->s.heap.IsSliceOf sl vl vu .none->IsPart vl lo->IsPart vu hi->r x lo hi H Q ->
  ∃ T id,typeLookup (.type T) "__getitem__"=pure (some (.builtin id))/\s.TypeIs v T/\wpAny (model X.prog X.w) X.A (getItem v (.ref sl)) (EP X pins σ Q) X.xe s
def tSl (r:V->Option Int->Option Int->Hp->VK->Prop) (te:TE) (tl th:TO):TE:=fun σ H Q=>te σ H fun x H1=>tl σ H1 fun l H2=>th σ H2 fun u H3=>r x l u H3 Q
theorem iU {r:V->Option Int->Option Int->Hp->VK->Prop} (hr:SlR X r) (he:PE X e te) (hl:PO X lo tl) (hu:PO X hi th):PE X (.Subscript e (.Slice lo hi none p2) pos) (tSl r te tl th):=by
 intro pins s σ H Q I h
 refine Subscript_ (thn (he pins s σ H _ I h) fun v s1 hh=>?_)
 obtain ⟨x,H1,I1,r1,q1⟩:=hh
 refine wpAny_Slice (thn (hl pins s1 σ H1 _ I1 q1) fun vl s2 ⟨l,H2,I2,pl,q2⟩=>thn (hu pins s2 σ H2 _ I2 q2) fun vu s3 ⟨u,H3,I3,pu,q3⟩=>?_)
 rw [evalPart_none]
 refine wpAny_pure ?_
 have I4:Inv X pins σ H3 { s3 with heap:=s3.heap.push { cls:=.type "slice",data:=.fields #[vl,vu,.none] } }:=I3.kept (t':=s3.toks) fun b ob q=>Heap.get?_push_of_some _ q
 obtain ⟨T,id,hT,ht,hg⟩:=hr pins { s3 with heap:=s3.heap.push { cls:=.type "slice",data:=.fields #[vl,vu,.none] } } σ H3 x v vl vu l u s3.heap.objs.size Q I4 r1 (Heap.IsSliceOf.new ..) pl pu q3
 show wpAny (model X.prog X.w) X.A (subscriptTail e (.Slice lo hi none p2) v (.ref s3.heap.objs.size)) (EP X pins σ Q) X.xe { s3 with heap:=s3.heap.push { cls:=.type "slice",data:=.fields #[vl,vu,.none] } }
 exact tail_any (ops:=[.ref s3.heap.objs.size,v]) ht hT hg (by with_unfolding_all rfl)
def pV (xs:List V) (lo hi:Option Int):List V:=(xs.drop (HT.sIx xs.length 0 lo)).take (HT.sIx xs.length xs.length hi - HT.sIx xs.length 0 lo)
theorem q1Q (xs:List V) (lo hi:Option Int):(pV xs lo hi).length<=xs.length:=by
 unfold pV
 rw [List.length_take,List.length_drop]
 omega
def rSlT (K:W.Frag):V->Option Int->Option Int->Hp->VK->Prop:=fun x lo hi H Q=>∃ a xs,x = .ref a/\SqT K H a xs /\
 ¬ (HT.sIx xs.length 0 lo=0/\HT.sIx xs.length xs.length hi=xs.length)/\∀ p,H p=none->Q (.ref p) (upd H p (.tup (pV xs lo hi)))
theorem g9Q:SlR X (rSlT X.K):=by
 intro pins s σ H x v vl vu lo hi sl Q I rx hs pl pu h
 obtain ⟨a,xs,rfl,hx,hw,q⟩:=h
 cases rx
 obtain ⟨its,r,ht,hz⟩:=I.tuple hx
 have hlen:its.toArray.size=xs.length:=by rw [List.size_toArray]; exact r.length.symm
 refine ⟨"tuple",_,PyProof.Rows.slot_tuple_getitem.lookup,ht.typeIs,?_⟩
 refine HT.getItem_tuple_cut ht hs pl pu (by rw [hlen]; exact hw) ?_ (by rw [hlen]; exact hz)
 rw [hlen]
 refine ⟨.ref s.heap.objs.size,_,I.laid (t':=s.toks) (o:=.tup (pV xs lo hi)) (fun b ob q=>Heap.get?_push_of_some _ q) (Nat.le_refl _) ?_,rfl,q _ (I.hok.fresh (Nat.le_refl _))⟩
 exact ⟨Nat.le_trans (q1Q xs lo hi) hz,_,(r.drop (HT.sIx xs.length 0 lo)).take (HT.sIx xs.length xs.length hi - HT.sIx xs.length 0 lo),IsTup.new _ _⟩
def p2X (K:W.Frag):R2:=fun x y H Q=>∃ a b xs ys,x = .ref a/\y = .ref b/\SqT K H a xs/\SqT K H b ys/\xs≠[]/\xs.length + ys.length<=sizeLine /\
 (ys=[]->Q (.ref a) H)/\(ys≠[]->∀ p,H p=none->Q (.ref p) (upd H p (.tup (xs++ys))))
theorem rZ.nil_iff {xs:List V} {us:List Value} (r:rZ xs us):us=[] ↔ xs=[]:=by
 cases r with
 | nil=>simp
 | cons _ _=>simp
theorem y7Z:OpR X (binaryOp .Add) (p2X X.K):=by
 intro pins s σ H x y v u Q I rx ry h
 obtain ⟨a,b,xs,ys,rfl,rfl,ha,hb,hx,hz,q1,q2⟩:=h
 cases rx
 cases ry
 obtain ⟨its,r1,p1,_⟩:=I.tuple ha
 obtain ⟨its2,r2,p2,_⟩:=I.tuple hb
 refine HT.cat_tup p1 p2 (fun z=>hx (r1.nil_iff.mp z)) (fun z=>⟨.ref a,H,I,rfl,q1 (r2.nil_iff.mp z)⟩) (fun z=>?_) (by rw [<-r1.length,<-r2.length]; exact hz)
 refine ⟨.ref s.heap.objs.size,_,I.laid (t':=s.toks) (o:=.tup (xs++ys)) (fun b ob q=>Heap.get?_push_of_some _ q) (Nat.le_refl _) ?_,rfl,q2 (fun w=>z (r2.nil_iff.mpr w)) _ (I.hok.fresh (Nat.le_refl _))⟩
 exact ⟨by rw [List.length_append]; exact hz,_,r1.append r2,IsTup.new _ _⟩
end
end L2
namespace L2
open PySem PySem.Spec PyProof.Rows
def ixN (n:Nat) (i:Int):Option Nat:=if 0<=i then (if i < n then some i.toNat else none) else if -(n:Int)<=i then some (i + n).toNat else none
def atI {α:Type} (xs:List α) (i:Int):Option α:=(ixN xs.length i).bind fun j=>xs[j]?
theorem z7Z {n:Nat} {i:Int} {j:Nat} (h:ixN n i=some j):seqIndex? i n=some j/\j < n /\ -(n:Int)<=i/\i < n:=by
 unfold ixN at h
 by_cases h0:0<=i
 ·rw [if_pos h0] at h
  by_cases h1:i < n
  ·rw [if_pos h1] at h
   have e:i.toNat=j:=Option.some.inj h
   exact ⟨by rw [seqIndex_of h0 h1,e],by omega,by omega,h1⟩
  ·rw [if_neg h1] at h; cases h
 ·rw [if_neg h0] at h
  by_cases h1:-(n:Int)<=i
  ·rw [if_pos h1] at h
   have e:(i + n).toNat=j:=Option.some.inj h
   exact ⟨by rw [seqIndex_neg (by omega) h1,e],by omega,h1,by omega⟩
  ·rw [if_neg h1] at h; cases h
theorem m0Z {α:Type} {xs:List α} {i:Int} {v:α} (h:atI xs i=some v):∃ j,seqIndex? i xs.length=some j/\xs[j]?=some v/\j < xs.length /\ -(xs.length:Int)<=i/\i < xs.length:=by
 unfold atI at h
 cases e:ixN xs.length i with
 | none=>rw [e] at h; cases h
 | some j =>
  rw [e] at h
  obtain ⟨h1,h2,h3,h4⟩:=z7Z e
  exact ⟨j,h1,h,h2,h3,h4⟩
theorem oX {α:Type} {xs:List α} {j:Nat} {v:α} (h:xs[j]?=some v):atI xs (j:Int)=some v:=by
 have hj:j < xs.length:=(List.getElem?_eq_some_iff.mp h).1
 have e:ixN xs.length (j:Int)=some j:=by
  unfold ixN
  rw [if_pos (by omega),if_pos (by omega)]; simp
 unfold atI; rw [e]; exact h
def a8Z (b:Expr):Prop:=∀ o i,subscripted b false o i=operate [o,i] (getItem o i)
def IxR (X:Cx) (r:R2):Prop:=
 ∀ (value slice:Expr) (pins:List (Addr × Obj)) (s:Shared) (σ:St) (H:Hp) (x y:V) (v u:Value) (Q:VK),Inv X pins σ H s->qZ x v->qZ y u->r x y H Q ->
  subscripted slice false v u=operate [v,u] (getItem v u)->wpAny (model X.prog X.w) X.A (subscriptTail value slice v u) (EP X pins σ Q) X.xe s
def MtR (X:Cx) (id:String) (r:V->List V->Hp->VK->Prop):Prop:=
 ∀ (pins:List (Addr × Obj)) (s:Shared) (σ:St) (H:Hp) (x:V) (xs:List V) (v:Value) (us:List Value) (Q:VK),Inv X pins σ H s->qZ x v->rZ xs us->r x xs H Q ->
  wpAny (model X.prog X.w) X.A (call (.builtin id) (v :: us)) (EP X pins σ Q) X.xe s
section
variable {X:Cx} {a b:Expr} {ta tb:TE} {pos:Pos}
theorem mQ {r:R2} (hr:IxR X r) (ha:PE X a ta) (hb:PE X b tb) (hs:a8Z b):PE X (.Subscript a b pos) (tOp r ta tb):=by
 intro pins s σ H Q I h
 exact Subscript_ (binT ha hb I h fun v u s2 x y H2 I2 rx ry q=>hr a b pins s2 σ H2 x y v u Q I2 rx ry q (hs _ _))
def rIxL (K:W.Frag):R2:=fun x y H Q=>∃ p xs i v,x = .ref p/\y = .int i/\SqL K H p xs/\atI xs i=some v/\Q v H
def rIxT (K:W.Frag):R2:=fun x y H Q=>∃ p xs i v,x = .ref p/\y = .int i/\SqT K H p xs/\atI xs i=some v/\Q v H
theorem zQ:IxR X (rIxL X.K):=by
 intro value slice pins s σ H x y v u Q I rx ry h hs
 obtain ⟨p,xs,i,z,rfl,rfl,hq,he,q⟩:=h
 cases rx
 obtain ⟨t,rfl⟩:=ry
 obtain ⟨its,r,pl,hz⟩:=I.list hq
 obtain ⟨j,h1,h2,h3,h4,h5⟩:=m0Z he
 obtain ⟨w,ew,rw'⟩:=r.get h2
 have hl:=r.length
 have hn:=x8Q
 have fin:EP X pins σ Q w s:=⟨z,H,I,rw',q⟩
 by_cases h0:0<=i
 ·have hj:i.toNat=j:=by
   rw [seqIndex_of h0 h5] at h1
   exact Option.some.inj h1
  exact item_listR pl.isList h0 (by omega) (by rw [hj]; simpa using ew) fin hs
 ·have hj:(i + (its.toArray.size:Int)).toNat=j:=by
   rw [seqIndex_neg (by omega) h4] at h1
   rw [List.size_toArray,<-hl]
   exact Option.some.inj h1
  exact subscriptTail_builtinR (x:=w) pl.isList.typeIs slot_list_getitem.lookup
   (wpAny_getItem_list_neg (Q:=fun r s'=>r=w/\EP X pins σ Q r s') pl.isList (by omega) (by rw [List.size_toArray] <;> omega) (by omega) (by rw [hj]; simpa using ew) ⟨rfl,fin⟩) hs
theorem pQ:IxR X (rIxT X.K):=by
 intro value slice pins s σ H x y v u Q I rx ry h hs
 obtain ⟨p,xs,i,z,rfl,rfl,hq,he,q⟩:=h
 cases rx
 obtain ⟨t,rfl⟩:=ry
 obtain ⟨its,r,pl,hz⟩:=I.tuple hq
 obtain ⟨j,h1,h2,h3,h4,h5⟩:=m0Z he
 obtain ⟨w,ew,rw'⟩:=r.get h2
 have hl:=r.length
 have hn:=x8Q
 have fin:EP X pins σ Q w s:=⟨z,H,I,rw',q⟩
 exact subscriptTail_builtinR (x:=w) pl.typeIs slot_tuple_getitem.lookup
  (getItem_tuple (j:=j) (Q:=fun r s'=>r=w/\EP X pins σ Q r s') pl (by omega) (by omega) (by rw [List.size_toArray,<-hl]; exact h1) (by simpa using ew) ⟨rfl,fin⟩) hs
theorem a6Q (lo hi:Option Int) (n:Nat):(sliceBounds lo hi none n).1=((HT.sIx n 0 lo:Nat):Int)/\(sliceBounds lo hi none n).2.1=((HT.sIx n n hi:Nat):Int)/\(sliceBounds lo hi none n).2.2=1:=by
 refine ⟨?_,?_,rfl⟩
 ·cases lo with
  | none=>simp [sliceBounds,HT.sIx]
  | some i =>
   simp only [sliceBounds,HT.sIx,Option.getD_none,show (1:Int) > 0 by decide,if_true]
   by_cases h:i < 0
   ·simp only [h,if_true] <;> omega
   ·simp only [h,if_false] <;> omega
 ·cases hi with
  | none=>simp [sliceBounds,HT.sIx]
  | some i =>
   simp only [sliceBounds,HT.sIx,Option.getD_none,show (1:Int) > 0 by decide,if_true]
   by_cases h:i < 0
   ·simp only [h,if_true] <;> omega
   ·simp only [h,if_false] <;> omega
theorem k4Q (its:List Value) (lo hi:Option Int):slicePick its.toArray lo hi none=((its.drop (HT.sIx its.length 0 lo)).take (HT.sIx its.length its.length hi - HT.sIx its.length 0 lo)).toArray:=by
 obtain ⟨h1,h2,h3⟩:=a6Q lo hi its.toArray.size
 unfold slicePick
 rw [h1,h2,h3]
 simp only [sliceRange_one,pick_run,List.size_toArray] <;> rfl
def rSlL (K:W.Frag):V->Option Int->Option Int->Hp->VK->Prop:=fun x lo hi H Q=>∃ a xs,x = .ref a/\SqL K H a xs/\∀ p,H p=none->Q (.ref p) (upd H p (.lst (pV xs lo hi)))
theorem n0Z:SlR X (rSlL X.K):=by
 intro pins s σ H x v vl vu lo hi sl Q I rx hs pl pu h
 obtain ⟨a,xs,rfl,hx,q⟩:=h
 cases rx
 obtain ⟨its,r,ht,hz⟩:=I.list hx
 have hlen:=r.length
 refine ⟨"list",_,slot_list_getitem.lookup,ht.isList.typeIs,?_⟩
 refine wpAny_getItem_list_slice ht.isList hs pl pu .none (by simp) ?_ (by rw [List.size_toArray] <;> omega)
 rw [k4Q,<-hlen]
 refine ⟨.ref s.heap.objs.size,_,I.laid (t':=s.toks) (o:=.lst (pV xs lo hi)) (fun b ob q=>Heap.get?_push_of_some _ q) (Nat.le_refl _) ?_,rfl,q _ (I.hok.fresh (Nat.le_refl _))⟩
 exact ⟨Nat.le_trans (q1Q xs lo hi) hz,_,0,(r.drop (HT.sIx xs.length 0 lo)).take (HT.sIx xs.length xs.length hi - HT.sIx xs.length 0 lo),Heap.get?_push_size _ rfl⟩
def jU:V->Bool
 | .non=>true
 | .bl _=>true
 | .int _=>true
 | .str _=>true
 | _=>false
def eqV:V->V->Bool
 | .non,.non=>true
 | .bl a,.bl b=>a == b
 | .bl a,.int b=>(if a then 1 else 0) == b
 | .int a,.bl b=>a == (if b then 1 else 0)
 | .int a,.int b=>a == b
 | .str a,.str b=>a == b
 | _,_=>false
theorem h9Q {A:Around} {s:Shared} {y x:V} {u v:Value} (ry:qZ y u) (rx:qZ x v) (fy:jU y=true) (fx:jU x=true):SeqAt.EqAt A s u v (eqV y x):=by
 cases y with
 | non =>
  cases ry
  cases x with
  | non=>cases rx; exact SeqAt.EqAt.same _
  | bl b=>cases rx; exact SeqAt.EqAt.none_bool b
  | int b=>obtain ⟨t,rfl⟩:=rx; exact SeqAt.EqAt.none_int b t
  | str b=>obtain ⟨t,rfl⟩:=rx; exact SeqAt.EqAt.none_str b t
  | _=>exact absurd (show false=true from fx) Bool.false_ne_true
 | bl a =>
  cases ry
  cases x with
  | non=>cases rx; exact SeqAt.EqAt.bool_none a
  | bl b=>cases rx; exact SeqAt.EqAt.bool_bool a b
  | int b=>obtain ⟨t,rfl⟩:=rx; exact SeqAt.EqAt.bool_int a b t
  | str b=>obtain ⟨t,rfl⟩:=rx; exact SeqAt.EqAt.bool_str a b t
  | _=>exact absurd (show false=true from fx) Bool.false_ne_true
 | int a =>
  obtain ⟨t',rfl⟩:=ry
  cases x with
  | non=>cases rx; exact SeqAt.EqAt.int_none a t'
  | bl b=>cases rx; exact SeqAt.EqAt.int_bool a t' b
  | int b=>obtain ⟨t,rfl⟩:=rx; exact SeqAt.EqAt.int_int a t' b t
  | str b=>obtain ⟨t,rfl⟩:=rx; exact SeqAt.EqAt.int_str a t' b t
  | _=>exact absurd (show false=true from fx) Bool.false_ne_true
 | str a =>
  obtain ⟨t',rfl⟩:=ry
  cases x with
  | non=>cases rx; exact SeqAt.EqAt.str_none a t'
  | bl b=>cases rx; exact SeqAt.EqAt.str_bool a t' b
  | int b=>obtain ⟨t,rfl⟩:=rx; exact SeqAt.EqAt.str_int a t' b t
  | str b=>obtain ⟨t,rfl⟩:=rx; exact SeqAt.EqAt.str_str a t' b t
  | _=>exact absurd (show false=true from fx) Bool.false_ne_true
 | _=>exact absurd (show false=true from fy) Bool.false_ne_true
def eqU (x:V) (u:Value):Bool:=match u with
 | .none=>eqV .non x
 | .bool b=>eqV (.bl b) x
 | .int i _=>eqV (.int i) x
 | .str z _=>eqV (.str z) x
 | _=>false
theorem p4Z {x y:V} {u:Value} (r:qZ y u) (f:jU y=true):eqU x u=eqV y x:=by
 cases y with
 | non=>cases r; rfl
 | bl b=>cases r; rfl
 | int i=>obtain ⟨t,rfl⟩:=r; rfl
 | str z=>obtain ⟨t,rfl⟩:=r; rfl
 | _=>exact absurd (show false=true from f) Bool.false_ne_true
theorem b6Q {x:V}:∀ {xs:List V} {us:List Value},rZ xs us->xs.all jU=true->us.any (eqU x)=xs.any fun y=>eqV y x
 | _,_,.nil,_=>rfl
 | y :: xs,u :: us,.cons r t,f=>by
  rw [List.all_cons,Bool.and_eq_true] at f
  rw [List.any_cons,List.any_cons,p4Z r f.1,b6Q t f.2]
theorem z2Q {A:Around} {s:Shared} {x:V} {v:Value} (rx:qZ x v) (fx:jU x=true):∀ {xs:List V} {us:List Value},rZ xs us->xs.all jU=true->∀ u∈us,SeqAt.EqAt A s u v (eqU x u)
 | _,_,.nil,_=>fun u hu=>by cases hu
 | y :: xs,u :: us,.cons r t,f=>fun u' hu=>by
  rw [List.all_cons,Bool.and_eq_true] at f
  rcases List.mem_cons.mp hu with rfl | hu
  ·rw [p4Z r f.1]; exact h9Q r rx f.1 fx
  ·exact z2Q rx fx t f.2 u' hu
def inV (x:V) (xs:List V):Bool:=xs.any fun y=>eqV y x
def rIn (K:W.Frag) (neg:Bool):R2:=fun x y H Q=>∃ p xs,y = .ref p/\(SqL K H p xs\/SqT K H p xs)/\jU x=true/\xs.all jU=true/\Q (.bl (if neg then !inV x xs else inV x xs)) H
theorem d2Z:OpR X (compareOp .In) (rIn X.K false):=by
 intro pins s σ H x y v u Q I rx ry h
 obtain ⟨p,xs,rfl,hq,fx,fs,q⟩:=h
 cases ry
 rcases hq with hq | hq
 ·obtain ⟨its,r,pl,hz⟩:=I.list hq
  refine SeqAt.in_listAt (eqU x) pl.isList (fun w hw=>z2Q rx fx r fs w (by simpa using hw)) ⟨.bl _,H,I,rfl,?_⟩
  rw [show its.toArray.any (eqU x)=its.any (eqU x) by simp,b6Q r fs]
  exact q
 ·obtain ⟨its,r,pl,hz⟩:=I.tuple hq
  refine SeqAt.in_tupleAt (eqU x) pl (fun w hw=>z2Q rx fx r fs w (by simpa using hw)) ⟨.bl _,H,I,rfl,?_⟩
  rw [show its.toArray.any (eqU x)=its.any (eqU x) by simp,b6Q r fs]
  exact q
theorem dZ:yV X (.builtin "len") (fun xs H Q=>∃ p ys,xs=[.ref p]/\(SqL X.K H p ys\/SqT X.K H p ys)/\Q (.int ys.length) H):=by
 intro pins s σ H xs us Q I r h
 obtain ⟨p,ys,rfl,hq,q⟩:=h
 obtain ⟨u,rfl,rx⟩:=c0Q r
 cases rx
 have hn:=x8Q
 rcases hq with hq | hq
 ·obtain ⟨its,r',pl,hz⟩:=I.list hq
  have hlen:=r'.length
  exact Calls.call_len_list pl.isList (by simp only [List.size_toArray] <;> omega) ⟨.int ys.length,H,I.tok _,⟨s.toks + 1,by rw [List.size_toArray,hlen]⟩,q⟩
 ·obtain ⟨its,r',pl,hz⟩:=I.tuple hq
  have hlen:=r'.length
  exact len_tuple pl (by simp only [List.size_toArray] <;> omega) ⟨.int ys.length,H,I.tok _,⟨s.toks + 1,by rw [List.size_toArray,hlen]⟩,q⟩
theorem mK:yV X (.type "list") (fun xs H Q=>∃ p ys,xs=[.ref p]/\(SqL X.K H p ys\/SqT X.K H p ys)/\∀ l,H l=none->Q (.ref l) (upd H l (.lst ys))):=by
 intro pins s σ H xs us Q I r h
 obtain ⟨p,ys,rfl,hq,q⟩:=h
 obtain ⟨u,rfl,rx⟩:=c0Q r
 cases rx
 have fin:∀ (its:List Value),rZ ys its->ys.length<=sizeLine->∀ (h':Heap) (c':Nat),(∀ b o',s.heap.get? b=some o'->h'.get? b=some o') ->
   h'.get? s.heap.objs.size=some { cls:=.type "list",dict:=none,data:=.seq its.toArray c',slots:=#[] }->EP X pins σ Q (.ref s.heap.objs.size) { s with heap:=h' }:=fun its r' hz h' c' kp e =>
  ⟨.ref s.heap.objs.size,_,I.laid (t':=s.toks) kp (Nat.le_refl _) (show tZ X.prog X.w _ h' _ (.lst ys) from ⟨hz,its,c',r',e⟩),rfl,q _ (I.hok.fresh (Nat.le_refl _))⟩
 rcases hq with hq | hq
 ·obtain ⟨its,r',pl,hz⟩:=I.list hq
  have hlen:=r'.length
  obtain ⟨o,ho,hc,n,hd⟩:=pl.isList
  exact call_list_seq p (.inl rfl) ho hc hd (fun h' c' kp e=>fin its r' hz h' c' kp e) (by simp only [List.size_toArray] <;> omega)
 ·obtain ⟨its,r',pl,hz⟩:=I.tuple hq
  have hlen:=r'.length
  obtain ⟨o,ho,hc,n,hd⟩:=pl
  exact call_list_seq p (.inr rfl) ho hc hd (fun h' c' kp e=>fin its r' hz h' c' kp e) (by simp only [List.size_toArray] <;> omega)
theorem l4Q:yV X (.type "tuple") (fun xs H Q=>∃ p ys,xs=[.ref p]/\((SqL X.K H p ys/\∀ l,H l=none->Q (.ref l) (upd H l (.tup ys)))\/(SqT X.K H p ys/\Q (.ref p) H))):=by
 intro pins s σ H xs us Q I r h
 obtain ⟨p,ys,rfl,h⟩:=h
 obtain ⟨u,rfl,rx⟩:=c0Q r
 cases rx
 rcases h with ⟨hq,q⟩ | ⟨hq,q⟩
 ·obtain ⟨its,r',pl,hz⟩:=I.list hq
  have hlen:=r'.length
  refine call_tuple_list pl.isList (fun h' kp=>?_) (by simp only [List.size_toArray] <;> omega)
  have I1:Inv X pins σ H { s with heap:=h' }:=I.kept (t':=s.toks) kp
  have I2:Inv X pins σ (upd H h'.objs.size (.tup ys)) { s with heap:=h'.push { cls:=.type "tuple",data:=.seq its.toArray } }:=
   I1.laid (t':=s.toks) (fun b o e=>Heap.get?_push_of_some _ e) (Nat.le_refl _) (show tZ X.prog X.w _ _ _ (.tup ys) from ⟨hz,its,r',IsTup.new _ _⟩)
  exact ⟨.ref h'.objs.size,_,I2,rfl,q _ (I1.hok.fresh (Nat.le_refl _))⟩
 ·obtain ⟨its,r',pl,hz⟩:=I.tuple hq
  exact call_tuple_same pl ⟨.ref p,H,I,rfl,q⟩
def tyV (K:W.Frag) (T:String) (x:V) (H:Hp):Prop:=match x with
 | .str _=>T = "str"
 | .int _=>T = "int"
 | .ref p=>(T = "list"/\∃ xs,SqL K H p xs)\/(T = "tuple"/\∃ o,K.lookup p=some o/\o.cls = .type "tuple"/\o.dict=none) \/
   (T = "dict"/\((∃ kvs,H p=some (.dK kvs))\/∃ kvs,H p=some (.dT kvs)))\/(T = "set"/\∃ S n,H p=some (.set S n))
 | _=>False
theorem q4Z {pins:List (Addr × Obj)} {σ:St} {H:Hp} {s:Shared} {T:String} {x:V} {v:Value} (I:Inv X pins σ H s) (r:qZ x v) (ty:tyV X.K T x H) :
  s.TypeIs v T/\∀ a,v = .ref a->∃ ob,s.heap.get? a=some ob/\ob.dict=none:=by
 cases x with
 | str z =>
  obtain ⟨t,rfl⟩:=r
  cases (show T = "str" from ty)
  exact ⟨typeIs_str s z t,fun _ e=>nomatch e⟩
 | int i =>
  obtain ⟨t,rfl⟩:=r
  cases (show T = "int" from ty)
  exact ⟨typeIs_int s i t,fun _ e=>nomatch e⟩
 | ref p =>
  cases r
  rcases ty with ⟨rfl,xs,hq⟩ | ⟨rfl,o,hk,hc,hd⟩ | ⟨rfl,hk⟩ | ⟨rfl,S,n,hk⟩
  ·obtain ⟨its,_,pl,_⟩:=I.list hq
   refine ⟨pl.isList.typeIs,fun a e=>?_⟩
   cases e
   obtain ⟨o,n,e,c,hd,_⟩:=pl
   exact ⟨o,e,hd⟩
  ·refine ⟨⟨o,I.kIn p o hk,hc⟩,fun a e=>?_⟩
   cases e
   exact ⟨o,I.kIn _ o hk,hd⟩
  ·have z:∃ o,s.heap.get? p=some o/\o.ExactDict:=by
    rcases hk with ⟨kvs,hk⟩ | ⟨kvs,hk⟩
    ·obtain ⟨_,_,_,_,o,_,_,e,ex,_⟩:=I.hok p _ hk
     exact ⟨o,e,ex⟩
    ·obtain ⟨_,_,_,_,o,_,_,e,ex,_⟩:=I.hok p _ hk
     exact ⟨o,e,ex⟩
   obtain ⟨o,e,ex⟩:=z
   refine ⟨⟨o,e,ex.1⟩,fun a e2=>?_⟩
   cases e2
   exact ⟨o,e,ex.2.1⟩
  ·obtain ⟨o,_,_,_,e,ex,_⟩:=I.hok p _ hk
   refine ⟨⟨o,e,ex.1⟩,fun a e2=>?_⟩
   cases e2
   exact ⟨o,e,ex.2.1⟩
 | _=>exact False.elim ty
def tBM0 (K:W.Frag) (T:String) (r:V->List V->Hp->VK->Prop) (to:TE):TE:=fun σ H Q=>to σ H fun x H1=>tyV K T x H1/\r x [] H1 Q
def tBM (K:W.Frag) (T:String) (r:V->List V->Hp->VK->Prop) (to:TE) (t:TA):TE:=fun σ H Q=>to σ H fun x H1=>tyV K T x H1/\t σ H1 fun xs H2=>r x xs H2 Q
variable {o e:Expr} {es:List Expr} {to:TE} {t:TA} {name:Str} {apos cpos:Pos} {T id:String} {r:V->List V->Hp->VK->Prop}
theorem x0X (pa:PlainAttrs T) (slot:Slot T name id) (hty:typeOf (.builtin id)=pure (.type "method_descriptor")) (hm:MtR X id r) (ho:PE X o to)
  (hbase:attributeBase o name X.env (eval o X.env)=eval o X.env:=by rfl) (hline:(apos.endLine == cpos.line)=true:=by rfl):PE X (.Call (.Attribute o name apos) [] [] cpos) (tBM0 X.K T r to):=by
 intro pins s σ H Q I h
 refine wpAny_Call_method0_late hbase hline (thn (ho pins s σ H _ I h) fun v s1 hh=>?_)
 obtain ⟨x,H1,I1,r1,ty,q1⟩:=hh
 obtain ⟨h1,h2⟩:=q4Z I1 r1 ty
 exact ⟨T,id,pa,slot,hty,h1,h2,Calls.callWith_builtin rfl (PySem.evalArgs_none (hm pins s1 σ H1 x [] v [] Q I1 r1 .nil q1))⟩
theorem iV (pa:PlainAttrs T) (slot:Slot T name id) (hty:typeOf (.builtin id)=pure (.type "method_descriptor")) (hm:MtR X id r) (ho:PE X o to) (ha:PA X (e :: es) t)
  (hbase:attributeBase o name X.env (eval o X.env)=eval o X.env:=by rfl)
  (hfew:((backTo cpos (starEach (e :: es) X.env)).all (fun x=>!x.1) && (backToKw cpos (keywordEach [] X.env)).all (fun x=>x.1.isSome)
   && decide ((e :: es).length + ([]:List Keyword).length + (if ([]:List Keyword).isEmpty then 0 else 1) < 30))=true:=by rfl)
  (hline:(apos.endLine == cpos.line)=true:=by rfl) (hs:starEach (e :: es) X.env=(false,eval e X.env) :: starEach es X.env:=by rfl) (hplain:(backTo cpos (starEach es X.env)).any (·.1)=false:=by rfl) :
  PE X (.Call (.Attribute o name apos) (e :: es) [] cpos) (tBM X.K T r to t):=by
 intro pins s σ H Q I h
 refine wpAny_Call_method_late hbase hfew hline rfl (thn (ho pins s σ H _ I h) fun v s1 hh=>?_)
 obtain ⟨x,H1,I1,r1,ty,q1⟩:=hh
 obtain ⟨h1,h2⟩:=q4Z I1 r1 ty
 refine ⟨T,id,pa,slot,hty,h1,h2,?_⟩
 have hA:=ha cpos pins s1 σ H1 _ I1 q1
 rw [hs] at hA ⊢
 refine Calls.callWith_builtin (by show (false || (backTo cpos (starEach es X.env)).any (·.1))=false; rw [hplain] <;> rfl) (Calls.evalArgs_plain ?_)
 exact thn hA fun us s2 ⟨vs,H2,I2,r2,q2⟩=>hm pins s2 σ H2 x vs v us Q I2 r1 r2 q2
end
end L2
namespace L2
open PySem PySem.Spec PyProof.Rows
def MtM (X:Cx) (id:String) (r:V->List V->Hp->VK->Prop):Prop:=
 ∀ (pins:List (Addr × Obj)) (s:Shared) (σ:St) (H:Hp) (x:V) (xs:List V) (v:Value) (us:List Value) (Q:VK),Inv X pins σ H s->qZ x v->rZ xs us->r x xs H Q ->
  wpAny (model X.prog X.w) X.A (call (.builtin id) (v :: us)) (EP X pins σ Q) X.xe s
theorem rZ.one:∀ {x:V} {us:List Value},rZ [x] us->∃ u,us=[u]/\qZ x u
 | _,_,.cons r .nil=>⟨_,rfl,r⟩
theorem rZ.zero:∀ {us:List Value},rZ [] us->us=[]
 | _,.nil=>rfl
theorem rZ.dropLast {xs:List V} {us:List Value} (h:rZ xs us):rZ xs.dropLast us.dropLast:=by
 induction h with
 | nil=>exact .nil
 | cons r t ih =>
  cases t with
  | nil=>exact .nil
  | cons q t'=>exact .cons r ih
theorem rZ.reverse {xs:List V} {us:List Value} (h:rZ xs us):rZ xs.reverse us.reverse:=by
 induction h with
 | nil=>exact .nil
 | cons r t ih=>rw [List.reverse_cons,List.reverse_cons]; exact rZ.append ih (.cons r .nil)
theorem rZ.rep {xs:List V} {us:List Value} (h:rZ xs us):∀ k:Nat,rZ (List.replicate k xs).flatten (List.replicate k us).flatten
 | 0=>.nil
 | k + 1=>by
  rw [List.replicate_succ,List.replicate_succ,List.flatten_cons,List.flatten_cons]
  exact rZ.append h (rZ.rep h k)
theorem i9Q {α:Type} (l:List α):l.eraseIdx (l.length - 1)=l.dropLast:=by
 induction l with
 | nil=>rfl
 | cons a r ih =>
  cases r with
  | nil=>rfl
  | cons b r =>
   have e:(a :: b :: r).length - 1=((b :: r).length - 1) + 1:=by
    have h1:(a :: b :: r).length=r.length + 2:=rfl
    have h2:(b :: r).length=r.length + 1:=rfl
    omega
   rw [e,List.eraseIdx_cons_succ,ih]
   all_goals rfl
theorem a5Q (its:List Value):∀ (k:Nat) (acc:List Value),
  List.foldl (fun x1 x2=>x1++x2) acc.toArray (List.replicate k its.toArray)=(acc++(List.replicate k its).flatten).toArray
 | 0,acc=>by simp
 | k + 1,acc=>by
  have e:acc.toArray++its.toArray=(acc++its).toArray:=by simp
  have e2:(acc++its)++(List.replicate k its).flatten=acc++(List.replicate (k + 1) its).flatten:=by
   rw [List.replicate_succ,List.flatten_cons,List.append_assoc]
  rw [<-e2,<-a5Q its k (acc++its),<-e,List.replicate_succ,List.foldl_cons]
section
variable {X:Cx} {pins:List (Addr × Obj)} {σ:St} {H:Hp} {s:Shared} {l b:Addr} {xs ys zs:List V}
theorem Inv.lset {its its':List Value} {n:Nat} {f:Array Value->Array Value} {t':Nat} (I:Inv X pins σ H s) (hH:H l=some (.lst xs))
  (e:s.heap.get? l=some { cls:=.type "list",data:=.seq its.toArray n }) (hf:f its.toArray=its'.toArray) (hv:rZ ys its') (hz:ys.length<=sizeLine) :
  Inv X pins σ (upd H l (.lst ys)) { s with heap:=s.heap.update l (Obj.mapSeq f),toks:=t' }:=by
 have q:=PySem.IsL.update e f
 rw [hf] at q
 refine I.write (x:=l) (e:=l) (by rw [hH]; exact trivial) (.inl rfl) (fun b' u hb hu=>(Heap.get?_update_other s.heap (Obj.mapSeq f) (Ne.symm hb)).trans hu) ⟨_,q⟩ ?_
 exact ⟨hz,its',_,hv,q⟩
theorem Inv.lnew {its:List Value} {t':Nat} (I:Inv X pins σ H s) (hv:rZ ys its) (hz:ys.length<=sizeLine) :
  Inv X pins σ (upd H s.heap.objs.size (.lst ys)) { s with heap:=s.heap.push { cls:=.type "list",data:=.seq its.toArray },toks:=t' }:=
 I.laid (fun _ _ q=>Heap.get?_push_of_some _ q) (Nat.le_refl _) ⟨hz,its,0,hv,Heap.get?_push_size _ rfl⟩
theorem Inv.fresh (I:Inv X pins σ H s):H s.heap.objs.size=none:=I.hok.fresh (Nat.le_refl _)
theorem Inv.lstM (I:Inv X pins σ H s) (hH:H l=some (.lst xs)):xs.length<=sizeLine/\∃ (its:List Value) (n:Nat),rZ xs its/\xs.length=its.length/\s.heap.get? l=some { cls:=.type "list",data:=.seq its.toArray n }:=by
 obtain ⟨z,its,n,r,e⟩:=I.hok l _ hH
 exact ⟨z,its,n,r,r.length,e⟩
theorem p7Q {n:Nat} (h:n<=sizeLine):Builtin.List.listTooLong n=false:=by
 unfold Builtin.List.listTooLong
 exact decide_eq_false (by omega)
end
section
variable {X:Cx}
def rAppend:V->List V->Hp->VK->Prop:=fun x vs H Q=>∃ l xs y,x = .ref l/\vs=[y]/\H l=some (.lst xs)/\xs.length < sizeLine/\Q .non (upd H l (.lst (xs++[y])))
theorem iX:MtM X "list.append" rAppend:=by
 intro pins s σ H x vs v us Q I rx rv h
 obtain ⟨l,xs,y,rfl,rfl,hH,hz,q⟩:=h
 cases rx
 obtain ⟨u,rfl,ru⟩:=rv.one
 obtain ⟨z,its,n,r,hl,e⟩:=I.lstM hH
 refine call_meets F.slot_list_append ⟨_,e,rfl⟩ F.entry_list_append (F.args_list_append_2 _ _) (PySem.list_append l its.toArray n u (by rw [List.size_toArray]; omega)) ⟨e,?_⟩
 refine ⟨.non,_,I.lset (its':=its++[u]) hH e (by simp) (r.append (.cons ru .nil)) ?_,rfl,q⟩
 rw [List.length_append,List.length_singleton]
 omega
def rExtend:V->List V->Hp->VK->Prop:=fun x vs H Q=>∃ l b xs zs,x = .ref l/\vs=[.ref b]/\H l=some (.lst xs)/\H b=some (.lst zs)/\xs.length + zs.length<=sizeLine/\Q .non (upd H l (.lst (xs++zs)))
theorem b5Q:MtM X "list.extend" rExtend:=by
 intro pins s σ H x vs v us Q I rx rv h
 obtain ⟨l,b,xs,zs,rfl,rfl,hH,hB,hz,q⟩:=h
 cases rx
 obtain ⟨u,rfl,ru⟩:=rv.one
 cases ru
 obtain ⟨z,its,n,r,hl,e⟩:=I.lstM hH
 obtain ⟨z2,its2,n2,r2,hl2,e2⟩:=I.lstM hB
 have hsz:its.toArray.size + its2.toArray.size<=sizeLine:=by rw [List.size_toArray,List.size_toArray]; omega
 have hlong:¬ (!its.toArray.isEmpty && Builtin.List.listTooLong (its.toArray.size + its2.toArray.size))=true:=by
  rw [p7Q hsz,Bool.and_false]
  exact Bool.false_ne_true
 refine call_meets F.slot_list_extend ⟨_,e,rfl⟩ F.entry_list_extend (F.args_list_extend_2 _ _)
  (AutoSeq1.list_extend_list_list_0 l its.toArray n b its2.toArray n2 hlong (by rw [List.size_toArray]; omega) (by omega)) ⟨e,e2,?_⟩
 refine ⟨.non,_,I.lset (its':=its++its2) hH e (by simp) (r.append r2) ?_,rfl,q⟩
 rw [List.length_append]
 omega
def rPop:V->List V->Hp->VK->Prop:=fun x vs H Q=>∃ l xs y,x = .ref l/\vs=[]/\H l=some (.lst xs)/\xs[xs.length - 1]?=some y/\Q y (upd H l (.lst xs.dropLast))
theorem y0X:MtM X "list.pop" rPop:=by
 intro pins s σ H x vs v us Q I rx rv h
 obtain ⟨l,xs,y,rfl,rfl,hH,hy,q⟩:=h
 cases rx
 have hus:=rv.zero
 subst hus
 obtain ⟨z,its,n,r,hl,e⟩:=I.lstM hH
 obtain ⟨u,hu,ru⟩:=r.get hy
 have hy':its.toArray[its.toArray.size - 1]?=some u:=by
  show its.toArray[its.length - 1]?=some u
  rw [<-Array.getElem?_toList,<-hl]
  exact hu
 refine call_meets F.slot_list_pop ⟨_,e,rfl⟩ F.entry_list_pop (F.args_list_pop_1 _) (MeetsSeq.list_pop_last l its.toArray n u hy' (by rw [List.size_toArray]; omega)) ⟨e,?_⟩
 refine ⟨y,_,I.lset (its':=its.dropLast) hH e ?_ r.dropLast ?_,ru,q⟩
 ·show its.toArray.eraseIdxIfInBounds (its.toArray.size - 1)=its.dropLast.toArray
  rw [List.size_toArray,List.eraseIdxIfInBounds_toArray,i9Q]
 ·rw [List.length_dropLast]
  omega
def rCat:R2:=fun x y H Q=>∃ l b xs zs,x = .ref l/\y = .ref b/\H l=some (.lst xs)/\H b=some (.lst zs)/\xs.length + zs.length<=sizeLine/\∀ p,H p=none->Q (.ref p) (upd H p (.lst (xs++zs)))
theorem z0X:OpR X (binaryOp .Add) rCat:=by
 intro pins s σ H x y v u Q I rx ry h
 obtain ⟨l,b,xs,zs,rfl,rfl,hH,hB,hz,q⟩:=h
 cases rx
 cases ry
 obtain ⟨z,its,n,r,hl,e⟩:=I.lstM hH
 obtain ⟨z2,its2,n2,r2,hl2,e2⟩:=I.lstM hB
 refine PySem.P.add_list e e2 ?_ (by rw [List.size_toArray,List.size_toArray]; omega)
 have ea:its.toArray++its2.toArray=(its++its2).toArray:=by simp
 rw [ea]
 exact ⟨.ref _,_,I.lnew (t':=s.toks) (r.append r2) (by rw [List.length_append]; omega),rfl,q _ I.fresh⟩
def rRep:R2:=fun x y H Q=>∃ l k xs,x = .ref l/\y = .int k/\H l=some (.lst xs) /\ -(2 ^ 63)<=k/\k < 2 ^ 63/\xs.length * k.toNat<=sizeLine /\
 ∀ p,H p=none->Q (.ref p) (upd H p (.lst (List.replicate k.toNat xs).flatten))
theorem b8Z {α:Type} (xs:List α) (k:Nat):(List.replicate k xs).flatten.length=k * xs.length:=by
 induction k with
 | zero=>simp
 | succ k ih=>rw [List.replicate_succ,List.flatten_cons,List.length_append,ih,Nat.succ_mul,Nat.add_comm]
theorem a1X:OpR X (binaryOp .Mult) rRep:=by
 intro pins s σ H x y v u Q I rx ry h
 obtain ⟨l,k,xs,rfl,rfl,hH,h1,h2,hz,q⟩:=h
 cases rx
 obtain ⟨t,rfl⟩:=ry
 obtain ⟨z,its,n,r,hl,e⟩:=I.lstM hH
 have hlen:its.toArray.size * k.toNat<=sizeLine:=by rw [List.size_toArray,<-hl]; exact hz
 have hcap:¬ its.toArray.size * k.toNat > (2 ^ 63 - 1) / 8:=by
  have:(sizeLine:Nat)<=(2 ^ 63 - 1) / 8:=by decide
  omega
 have hfit:¬ (!Builtin.List.listFitsIndex k)=true:=by
  rw [fitsIndex_both h1 h2]
  exact Bool.false_ne_true
 have hlong:¬ Builtin.List.listTooLong (its.toArray.size * k.toNat)=true:=by
  rw [p7Q hlen]
  exact Bool.false_ne_true
 have hnew:List.foldl (fun x1 x2=>x1++x2) #[] (List.replicate (if its.toArray.isEmpty=true then 0 else k.toNat) its.toArray)=(List.replicate k.toNat its).flatten.toArray:=by
  have f0:∀ m:Nat,List.foldl (fun x1 x2=>x1++x2) #[] (List.replicate m its.toArray)=(List.replicate m its).flatten.toArray:=fun m=>by
   have:=a5Q its m []
   rw [List.nil_append] at this
   exact this
  rw [f0]
  cases its with
  | nil=>simp
  | cons a r'=>rw [if_neg (by simp)]
 refine wpAny_binaryOp_repeat_ref (T:="list") (U:="int") (by decide) ⟨_,e,rfl⟩ (fun s'=>typeIs_int s' k t) noFill_list_mul F.fills_int_mul F.slot_int_rmul repeat_list F.slot_int_index.lookup
  (call_meets F.slot_int_rmul (typeIs_int s k t) F.entry_int_rmul (F.args_int_rmul_2 _ _) (int___rmul___int_list k t l its.toArray n)
   ⟨e,rfl,⟨_,e,rfl⟩,call_meets F.slot_list_mul ⟨_,e,rfl⟩ F.entry_list_mul (F.args_list_mul_2 _ _) (AutoListH.list___mul___list_int_3 l its.toArray n k t hfit hcap hlong) ⟨e,?_⟩⟩)
 rw [hnew]
 exact ⟨.ref _,_,I.lnew (t':=s.toks) (r.rep k.toNat) (by rw [b8Z,Nat.mul_comm]; exact hz),rfl,q _ I.fresh⟩
end
section
variable {prog:Program} {w:World} {A:Around} {E:Value->Shared->Prop} {s:Shared}
set_option maxRecDepth 100000 in
end
section
variable {X:Cx}
end
end L2
namespace Att
open PySem PySem.W PySem.Calls PyProof.Rows
theorem x1Q {P:Params} {h:Heap}:∀ (ns:List Int) (vs:List Value),WellAll P h vs (ns.map WData.int)->IntsAre vs ns:=by
 intro ns
 induction ns with
 | nil =>
  intro vs w
  rw [List.map_nil] at w
  cases w
  exact .nil
 | cons n ns ih =>
  intro vs w
  rw [List.map_cons] at w
  cases w with
  | cons a b =>
   cases a
   exact .cons _ _ (ih _ b)
theorem e2Z {l:OpenLaw} {n:Nat} (hn:l.most=some n) {P:Params} {h:Heap} {args:List WData} {vals:List Value}
  (hpre:l.row.toRowW.claim.pre args=true) (hwl:WellAll P h vals args) :
  ∃ a vs ns,vals=[Value.ref a]/\args=[WData.list (ns.map WData.int)]/\h.get? a=some { cls:=.type "list",data:=.seq vs.toArray }/\IntsAre vs ns/\ns.length<=n:=by
 have hsh:WShape.hasAll [] args [.list .int]=true:=(pre_splitW hpre).1
 have hc:l.pre.holds [] { args:=args }=true:=(pre_splitW hpre).2
 obtain ⟨d,r,rfl,h1,h2⟩:=hasAllW_cons hsh
 obtain rfl:=hasAllW_nil h2
 obtain ⟨xs,rfl,h3⟩:=hasW_list h1
 obtain ⟨ns,rfl⟩:=items_int h3
 have hlen:ns.length<=n:=by
  unfold OpenLaw.pre at hc
  have h4:(WTm.not (.lt (.lit (.int (n:Int))) (.len (.arg 0)))).holds [] { args:=[.list (ns.map .int)] }=true:=by
   have h4:=(holds_andW hc).1
   rw [hn] at h4
   exact h4
  have h5:=condW_of h4 (w_not (w_lt w_lit (w_len_list (w_arg rfl))))
  rw [List.length_map] at h5
  refine Nat.le_of_not_lt fun q=>?_
  have q':(n:Int) < ((ns.length:Nat):Int):=by omega
  first
   | (rw [decide_eq_true q'] at h5; exact absurd h5 (by decide))
   | (simp at h5; omega)
 cases hwl with
 | cons w1 w2 =>
  cases w2
  cases w1 with
  | list ho hall=>exact ⟨_,_,ns,rfl,rfl,ho,x1Q ns _ hall,hlen⟩
theorem f2Z (l:OpenLaw) (args:List WData):l.row.toRowW.claim.post args (.bool true) args=true:=
 postW_of (r:=l.row.toRowW) (X:=(true == true))
  (show WShape.has [] (.bool true) .bool=true by first | rfl | decide | simp [WShape.has,WShape.arms,WShape.armsAll])
  (show (WTm.eq .res (.lit (.bool true))).value [] { args:=args,res:=some (.bool true),after:=args }=some (.bool (true == true)) from w_eq_bool (w_res rfl) w_lit) rfl
theorem attach_call {l:OpenLaw} {n:Nat} {q:Program} {loose:List Str} {XP:(Str->Option Value)->Heap->Prop} {YP:World->Heap->Prop} {d:DefRec}
  (hn:l.most=some n) (hdf:d.params.defaults=[])
  (call:∀ (w:World) (s₀ s₁:Shared) (mg mb:Str->Option Value) (fa:Addr) (o:Obj) (pm cd doc:Value) (a:Addr) (vs:List Value) (ns:List Int),
   Ground q loose [] XP w s₀ mg mb s₁.heap->YP w s₁.heap ->
   s₁.heap.get? fa=some o->o.data = .func (docDef d.name d.params d.body d.scope pm cd doc)->s₁.heap.CodeRec cd d.name->mg d.name=some (.ref fa) ->
   s₁.heap.get? a=some { cls:=.type "list",data:=.seq vs.toArray }->IntsAre vs ns->ns.length<=n->s₁.gens = #[] ->
   codeAny (model l.prog w) callerA (.call (.ref fa) ⟨[.ref a],[]⟩) (fun r s'=>r = .ok (.ret (.bool true))/\OldK s₁.heap s'.heap/\s'.os=s₁.os/\AllBare s'.gens) s₁) :
  WalkO q loose XP YP l.row.toRowW d [] (fun f vs=>PySem.call f vs):=by
 intro w s₀ s₁ mg mb G Y fa o pm cd doc dV kV ho hd hcd hD hmg hg args vals as hpre hlay hrd hwl hlo
 obtain rfl:dV = .none:=Dflts.none hD hdf
 obtain rfl:kV = .none:=Dflts.noKw hD
 obtain ⟨a,vs,ns,rfl,rfl,hobj,hints,hlen⟩:=e2Z hn hpre hwl
 refine enter_call (codeAny_mono (call w s₀ s₁ mg mb fa o pm cd doc a vs ns G Y ho (fd_plain hd) hcd hmg hobj hints hlen hg) fun r s' hq=>?_)
 obtain ⟨rfl,h2,h3,h4⟩:=hq
 exact ⟨.inl ⟨.bool true,.bool true,[],rfl,fun _=>rfl,.bool true,f2Z l _,fun _=>⟨List.Pairwise.nil,fun _ hm=>(nomatch hm)⟩⟩,h2,h3,h4⟩
section
variable {prog:Program} {w:World} {A:Around} {E:Value->Shared->Prop} {s:Shared} {K:Frag}
end
end Att
namespace L2
open PySem PySem.Spec PyProof.Rows
theorem c5Q:∀ {vs:List Value} {ns:List Int},IntsAre vs ns->rZ (ns.map V.int) vs
 | _,_,.nil=>.nil
 | _,_,.cons n t h=>.cons ⟨t,rfl⟩ (c5Q h)
def Only (H:Hp):Prop:=∀ b,H b=none\/∃ o xs,H b=some (.frz o (.lst xs))
theorem r4Z {P:Program} {w:World} {K:W.Frag} {mg mb:Str->Option Value} {CX:CXT} {k:Nat} {fa a:Addr} {fd:FuncData} {x:Str} {sp:Sp} {s₁:Shared} {vs:List Value} {ns:List Int}
  (KX:K.In s₁.heap) (hns:s₁.heap.Ns mainGlobals mg) (hb:s₁.heap.Ns builtinsNs mb) (hbb:∀ x:Str,x ≠ "__name__"->mb x=bootBuiltins x) (hlim:s₁.heap.NoLimit) (hg:s₁.gens = #[])
  (ha:s₁.heap.get? a=some { cls:=.type "list",data:=.seq vs.toArray }) (hi:IntsAre vs ns) (hl:ns.length<=sizeLine) (hr:sZ k callerA)
  (F:∀ base:Heap,K.In base->base.Ns mainGlobals mg->gU P w K mg base CX k fa fd [x] sp) (hbind:∀ (s:Shared) (u:Value),BindsTo s fd ⟨[u],[]⟩ [(x,u)])
  (hsp:∀ H:Hp,Only H->SqL K H a (ns.map V.int)->sp [.ref a] H (fun v _=>v = .bl true) fun _ _ _=>False)
  (hCX:∀ H e s',CX [] H s₁ (fun _ _ _=>False) e s'->False) :
  codeAny (model P w) callerA (.call (.ref fa) ⟨[.ref a],[]⟩) (fun r s'=>r = .ok (.ret (.bool true))/\OldK s₁.heap s'.heap/\s'.os=s₁.os/\AllBare s'.gens) s₁:=by
 have rv:=c5Q hi
 have lenV:=hi.length
 have core:∀ H:Hp,Only H->SqL K H a (ns.map V.int)->HOk P w H s₁.heap->(∀ b,H b≠none->b=a)->(H a≠none->K.lookup a=none) ->
   codeAny (model P w) callerA (.call (.ref fa) ⟨[.ref a],[]⟩) (fun r s'=>r = .ok (.ret (.bool true))/\OldK s₁.heap s'.heap/\s'.os=s₁.os/\AllBare s'.gens) s₁:=by
  intro H hO hS hok hA hK
  have base_of:∀ {b:Addr} {o:Obj},s₁.heap.get? b=some o->H b=none->(hidT s₁.heap H).get? b=some o:=fun e n=>v3Z e n
  have noA:∀ {b:Addr} {o:Obj} {es:Array DictEntry} {ep:Nat},s₁.heap.get? b=some o->o.data = .dict es ep->H b=none:=fun {b o es ep} e d=>by
   cases q:H b with
   | none=>rfl
   | some u =>
    have e':b=a:=hA b (by rw [q]; simp)
    subst e'
    rw [ha] at e; cases e
    have d':Data.seq vs.toArray _=Data.dict es ep:=d
    cases d'
  have nsK:∀ {b:Addr} {m:Str->Option Value},s₁.heap.Ns b m->(hidT s₁.heap H).Ns b m:=fun {b m} ⟨o,es,ep,e,d,r⟩=>⟨o,es,ep,base_of e (noA e d),d,r⟩
  have hKb:K.In (hidT s₁.heap H):=fun b o e=>base_of (KX b o e) (by
   cases q:H b with
   | none=>rfl
   | some u =>
    have e':b=a:=hA b (by rw [q]; simp)
    subst e'
    rw [hK (by rw [q]; simp)] at e; cases e)
  have hM:Mod K mg (hidT s₁.heap H):=⟨hKb,nsK hns,⟨mb,nsK hb,hbb⟩,let ⟨mc,h1,h2⟩:=hlim; ⟨mc,nsK h1,h2⟩⟩
  have e0:Env0 P w K mg (hidT s₁.heap H) callerA [] s₁ H:=⟨rfl,hM,fun b o e=>l7Z e,Nat.le_of_eq (r1Z _ _),trivial,fun b hb=>absurd (show b∈([]:List Addr) from hb) (by simp),hok,.of_eq hg⟩
  refine codeAny_mono ((F _ hKb (nsK hns)).run callerA [] s₁ H ⟨[.ref a],[]⟩ [.ref a] [.ref a] _ _ hr e0 (hbind s₁ (.ref a)) (.cons rfl .nil) (hsp H hO hS)) fun r s' h=>?_
  cases r with
  | error e=>exact (hCX H e s' h).elim
  | ok fl =>
   cases fl with
   | next=>exact False.elim h
   | brk=>exact False.elim h
   | cont=>exact False.elim h
   | ret u =>
    obtain ⟨v,H',os,bare,un,hok',r',q⟩:=h
    have q':v = .bl true:=q
    subst q'
    obtain rfl:u=Value.bool true:=r'
    refine ⟨rfl,OldK.of_keep fun b o e=>?_,os,bare⟩
    cases q:H b with
    | none=>exact un.keep b o e q (by intro z; exact absurd (show b∈([]:List Addr) from z) (by simp)) (by simp)
    | some u =>
     rcases hO b with z | ⟨ob,xs,z⟩
     ·rw [q] at z; cases z
     ·have z2:=un.frzs b ob _ z
      obtain ⟨e1,_⟩:=hok b _ z
      obtain ⟨e2,_⟩:=hok' b _ z2
      rw [e] at e1; cases e1
      exact e2
 cases hk:K.lookup a with
 | some o =>
  have e:=KX a o hk
  rw [ha] at e
  cases e
  refine core (fun _=>none) (fun _=>.inl rfl) (.inr ⟨_,vs.toArray,_,hk,rfl,rfl,rfl,by rw [List.size_toArray,lenV]; exact hl,by simpa using rv⟩) (fun b u z=>by have z':(none:Option HO)=some u:=z; cases z') (fun b z=>absurd rfl z) fun z=>absurd rfl z
 | none =>
  refine core (fun b=>if b=a then some (.frz { cls:=.type "list",data:=.seq vs.toArray } (.lst (ns.map V.int))) else none) (fun b=>?_) (.inl (.inr ⟨{ cls:=.type "list",data:=.seq vs.toArray },if_pos rfl⟩)) (fun b u z=>?_) (fun b z=>?_) fun _=>hk
  ·by_cases hb:b=a
   ·exact .inr ⟨_,_,if_pos hb⟩
   ·exact .inl (if_neg hb)
  ·by_cases hb:b=a
   ·have z':=(if_pos hb).symm.trans z
    cases z'
    subst hb
    exact ⟨ha,by rw [List.length_map]; exact hl,vs,_,rv,ha⟩
   ·have z':=(if_neg hb).symm.trans z
    cases z'
  ·by_cases hb:b=a
   ·exact hb
   ·exact absurd (if_neg hb) z
end L2
namespace L2
open PySem PySem.Spec PyProof.Rows
theorem walk_of {l:W.OpenLaw} {n k:Nat} {q:Program} {loose:List Str} {XP:(Str->Option Value)->Heap->Prop} {YP:World->Heap->Prop} {d:DefRec} {K:Params->W.Frag} {CX:World->CXT} {sp:World->Sp} {x:Str}
  (hn:l.most=some n) (hn2:n<=sizeLine) (hdf:d.params.defaults=[]) (hr:sZ k callerA)
  (hY:∀ (w:World) (h:Heap),YP w h->(K w.params).In h)
  (F:∀ (w:World) (mg:Str->Option Value) (fa:Addr) (h:Heap),(K w.params).In h->h.Ns mainGlobals mg->mg d.name=some (.ref fa) ->
   ∃ fd:FuncData,(∀ (s:Shared) (u:Value),BindsTo s fd ⟨[u],[]⟩ [(x,u)]) /\
    ∀ base:Heap,(K w.params).In base->base.Ns mainGlobals mg->gU l.prog w (K w.params) mg base (CX w) k fa fd [x] (sp w))
  (hsp:∀ (w:World) (H:Hp) (a:Addr) (ns:List Int),ns.length<=n->Only H->SqL (K w.params) H a (ns.map V.int)->sp w [.ref a] H (fun v _=>v = .bl true) fun _ _ _=>False)
  (hCX:∀ (w:World) (H:Hp) (s:Shared) (e:Value) (s':Shared),CX w [] H s (fun _ _ _=>False) e s'->False) :
  W.WalkO q loose XP YP l.row.toRowW d [] (fun f vs=>PySem.call f vs):=by
 refine Att.attach_call hn hdf fun w s₀ s₁ mg mb fa o pm cd doc a vs ns G Y ho hd hcd hmg hobj hints hlen hg=>?_
 have KX:=hY w _ Y
 obtain ⟨fd,hb,hF⟩:=F w mg fa _ KX G.T.g hmg
 exact r4Z KX G.T.g G.T.b G.T.builtins G.T.nolimit hg hobj hints (Nat.le_trans hlen hn2) hr hF hb (fun H hO hS=>hsp w H a ns hlen hO hS) fun H e s'=>hCX w H s₁ e s'
end L2
namespace L2
open PySem PySem.Spec PyProof.Rows
def e0Q (s:Stmt) (j:Nat):Stmt:=match s with
 | .ClassDef _ _ _ body _ _ _ _ _ _ _=>body.getD j (.Pass ⟨0,0,0,0⟩)
 | _=>.Pass ⟨0,0,0,0⟩
def xQ (s:Stmt):Arguments:=match s with
 | .FunctionDef _ a _ _ _ _ _ _ _ _=>a
 | _=>{ posonlyargs:=[],args:=[],vararg:=none,kwonlyargs:=[],kw_defaults:=[],kwarg:=none,defaults:=[] }
def vQ (s:Stmt):List Stmt:=match s with
 | .FunctionDef _ _ b _ _ _ _ _ _ _=>b
 | _=>[]
def gQ (s:Stmt):Scope:=match s with
 | .FunctionDef _ _ _ _ _ _ sc _ _ _=>sc
 | _=>{ kind:=.function,names:=[],isGenerator:=false,isCoroutine:=false }
abbrev CX0:CXT:=fun _ _ _ _ _ _=>False
abbrev E0:XK:=fun _ _ _=>False
theorem o0Z {X:Cx}:b1Q CX0 X E0:=fun _ _ _ _ _ _ _ h=>h.elim
structure Fun (K:W.Frag) (x qual:Str) (st:Stmt) (f:Addr) (fd:FuncData):Prop where
 ex:∃ (oc:Value) (od:Option Addr) (kV doc pm:Value) (an:Option Addr) (cdv ct:Value) (osl:Array (Option Value)),
  fd=W.fnOf x qual (xQ st) (vQ st) (gQ st) .none kV doc pm an cdv ct/\K.lookup f=some ⟨oc,od,.func fd,osl⟩/\W.codeIn K cdv qual=true
 kp:W.keepIn K (.ref f)=true
section
variable {P:Program} {w:World} {K:W.Frag} {mg:Str->Option Value} {base:Heap}
theorem Fun.ok {x qual:Str} {st:Stmt} {f:Addr} {fd:FuncData} {N ps:List Str} {k:Nat} {sp:Sp} (F:Fun K x qual st f fd) (S:yQ N ps (gQ st)) (len:∀ vs H Q E,sp vs H Q E->vs.length=ps.length)
  (hbody:∀ (cdv:Value) (A:Around) (outer:List Env) (s:Shared) (H:Hp) (vs:List V) (Q:VK) (E:XK),sZ k (A.deeper (envOfC qual (gQ st) s.heap.objs.size f cdv))->sp vs H Q E ->
   ∃ t,PSs (cxOf CX0 P w K mg base N qual (gQ st) f cdv A outer s H E).nox (vQ st) t/\t { nx:=fun _ H'=>Q .non H',rt:=Q } (start N vs) H):gU P w K mg base CX0 (k + 1) f fd ps sp:=by
 obtain ⟨oc,od,kV,doc,pm,an,cdv,ct,osl,rfl,lk,hcd⟩:=F.ex
 refine l2X lk hcd S len fun A outer s H vs Q E hr hsp=>?_
 obtain ⟨t,h,q⟩:=hbody cdv A outer s H vs Q E hr hsp
 exact ⟨t,h.nox,q⟩
theorem Fun.binds {x qual:Str} {st:Stmt} {f:Addr} {fd:FuncData} {ps:List Str} (F:Fun K x qual st f fd)
  (h:∀ (kV doc pm:Value) (an:Option Addr) (cdv ct:Value) (us:List Value),us.length=ps.length->bindArgs (W.fnOf x qual (xQ st) (vQ st) (gQ st) .none kV doc pm an cdv ct) ⟨us,[]⟩=pure (ps.zip us)):mY K fd ps []:=by
 obtain ⟨oc,od,kV,doc,pm,an,cdv,ct,osl,rfl,lk,hcd⟩:=F.ex
 exact .all (h kV doc pm an cdv ct)
theorem kU {x qual:Str} {st:Stmt} {f:Addr} {oc:Value} {od an:Option Addr} {osl:Array (Option Value)} {kV doc pm cdv ct:Value} (l:K.lookup f=some ⟨oc,od,.func (W.fnOf x qual (xQ st) (vQ st) (gQ st) .none kV doc pm an cdv ct),osl⟩)
  (c:W.codeIn K cdv qual=true) (k:W.keepIn K (.ref f)=true):Fun K x qual st f (W.fnOf x qual (xQ st) (vQ st) (gQ st) .none kV doc pm an cdv ct):=⟨⟨oc,od,kV,doc,pm,an,cdv,ct,osl,rfl,l,c⟩,k⟩
end
theorem uY {A:Around} {k:Nat} (hr:sZ k A):A.units + 1 < cLine:=Nat.lt_of_le_of_lt (Nat.add_le_add_left (by decide:1<=64) _) hr.units
theorem eZ {n:Nat} (h:n<=1000):n < sizeLine:=Nat.lt_of_le_of_lt h (by decide)
section
variable {X:Cx}
theorem pv (i:Nat) {x:Str} {pos:Pos} (hN:X.N[i]?=some x:=by rfl) (hv:Vis X.env.scope x:=by first | exact Or.inl rfl | exact Or.inr (Or.inl rfl) | exact Or.inr (Or.inr rfl)) (hd:(x == ("__debug__":Str))=false:=by decide)
  (hcd:(x == ("__classdict__":Str))=false:=by decide):PE X (.Name x pos) (tVar i):=l0X hN hv hd hcd
end
theorem kY {A B:Prop} (h:B):if false=true then A else B:=by
 rw [if_neg Bool.false_ne_true]
 exact h
theorem iteT {A B:Prop} (h:A):if true=true then A else B:=by
 rw [if_pos rfl]
 exact h
theorem d5Q {c A B:Prop} [Decidable c] (hc:c) (h:B):if (!decide c)=true then A else B:=by
 rw [decide_eq_true hc]
 exact kY h
def iQ (H H':Hp):Prop:=∀ b o,H b=some o->H' b=some o
theorem iQ.refl (H:Hp):iQ H H:=fun _ _ h=>h
theorem iQ.trans {H H1 H2:Hp} (a:iQ H H1) (b:iQ H1 H2):iQ H H2:=fun c o h=>b c o (a c o h)
end L2
namespace L2
open PySem PySem.Spec PyProof.Rows
section
variable {X:Cx}
end
section
variable {κ:Type} [DecidableEq κ]
theorem c8Z {kvs:List (κ × V)} {k:κ} {v:V} (h:vZ kvs k=some v):k∈kvs.map (·.1):=by
 have q:(kvs.any fun kv=>decide (kv.1=k))=true:=by
  rw [xJ,h]
  all_goals rfl
 obtain ⟨p,hp,e⟩:=List.any_eq_true.mp q
 exact List.mem_map.mpr ⟨p,hp,of_decide_eq_true e⟩
end
end L2
set_option maxHeartbeats 4400000
namespace L2
open PySem PySem.Spec PyProof.Rows
section
variable {X:Cx}
def q2X (i j:Int):Prop:=i.natAbs < 2 ^ 1000/\j.natAbs < 2 ^ 1000
theorem p0Z {i:Int} (h:i.natAbs < 2 ^ 1000):Builtin.Int.intBits i<=2 ^ 20:=by
 unfold Builtin.Int.intBits
 split
 ·exact Nat.zero_le _
 ·rename_i hz
  have hz':i.natAbs≠0:=by
   intro z
   apply hz
   rw [beq_iff_eq]
   omega
  have h2:i.natAbs.log2 < 1000:=(Nat.log2_lt hz').mpr h
  have e20:(2:Nat) ^ 20=1048576:=by decide
  omega
theorem d8Z:OpR X (binaryOp .Mult) (rI q2X fun i j=>.int (i * j)):=opI fun _ _ _ _ _ _ _ hc q=>mul_int q (IntMulOk.of_bits (p0Z hc.1) (p0Z hc.2))
theorem q7Q (hc:X.calm=true):yV X (.builtin "sum") (fun xs H Q=>∃ (p:Addr) (ns:List Int),xs=[.ref p]/\SqL X.K H p (ns.map V.int)/\Q (.int ns.sum) H):=by
 intro pins s σ H xs us Q I r h
 obtain ⟨p,ns,rfl,hq,q⟩:=h
 obtain ⟨u,rfl,rx⟩:=c0Q r
 cases rx
 obtain ⟨its,r',pl,hz⟩:=I.list hq
 have hi:IntsAre its ns:=y2Q r'
 obtain ⟨ys,hy⟩:=hi.allInts.items
 have hl':s.heap.IsList p (intItems ys):=hy ▸ pl.isList
 have e1:ns=ys.toList.map (·.1):=by
  rw [<-nums_intItems,<-hy]
  exact (show numsOf its.toArray.toList=ns from hi.numsOf).symm
 have e2:preSum (numAt ys) ys.size=ns.sum:=by
  rw [preSum_eq]
  rw [List.take_of_length_le (by simp),e1]
 refine sum_intListG (I.ok.hd hc) hl' fun h' tk t' hk=>?_
 rw [e2]
 exact ⟨.int ns.sum,H,I.kept hk,⟨t',rfl⟩,q⟩
theorem wX:yV X (.builtin "isinstance") (fun xs H Q=>∃ x n t b,xs=[x,.ty n]/\TyOf X.K H x t/\W.kitOne X.K t (.type n)=some b/\Q (.bl b) H):=by
 intro pins s σ H xs us Q I r h
 obtain ⟨x,n,t,b,rfl,ty,e,q⟩:=h
 obtain ⟨u,u',rfl,rx,ry⟩:=p2Q r
 obtain rfl:u'=Value.type n:=ry
 exact y1Z I rx ty e fun tk=>⟨.bl b,H,I.tok tk,rfl,q⟩
theorem c6Q:yV X (.type "dict") (fun xs H Q=>∃ a kvs,xs=[.ref a]/\Rd H a (.dK kvs)/\∀ p,H p=none->Q (.ref p) (upd H p (.dK kvs))):=by
 intro pins s σ H xs us Q I r h
 obtain ⟨a,kvs,rfl,ha,q⟩:=h
 obtain ⟨u,rfl,ru⟩:=c0Q r
 cases ru
 exact l4Z I ha fun p s' hp I'=>⟨.ref p,_,I',rfl,q p hp⟩
theorem a3Q {κ:Type} [DecidableEq κ]:∀ {kvs:List (κ × V)} {kv:κ × V},(kvs.map (·.1)).Nodup->kv∈kvs->vZ kvs kv.1=some kv.2
 | [],_,_,h=>by cases h
 | p :: r,kv,hn,h=>by
  have hn:=List.nodup_cons.mp (List.map_cons ▸ hn)
  rcases List.mem_cons.mp h with e0 | h
  ·rw [e0]; exact uX rfl
  ·have ne:¬ p.1=kv.1:=fun z=>hn.1 (by rw [z]; exact List.mem_map.mpr ⟨kv,h,rfl⟩)
   rw [vX ne]
   exact a3Q hn.2 h
end
theorem tZ.there {P:Program} {w:World} {H:Hp} {h:Heap} {a:Addr} {o:HO} (x:tZ P w H h a o):∃ ob,h.get? a=some ob:=by
 cases o with
 | lst xs=>obtain ⟨_,_,_,_,e⟩:=x; exact ⟨_,e⟩
 | tup xs=>obtain ⟨_,_,_,ob,e,_⟩:=x; exact ⟨ob,e⟩
 | dK kvs=>obtain ⟨_,_,_,_,o,_,_,e,_⟩:=x; exact ⟨_,e⟩
 | dT kvs=>obtain ⟨_,_,_,_,o,_,_,e,_⟩:=x; exact ⟨_,e⟩
 | set S n=>obtain ⟨o,_,_,_,e,_⟩:=x; exact ⟨_,e⟩
 | ins C dx fs=>obtain ⟨_,_,_,e,_⟩:=x; exact ⟨_,e⟩
 | own y=>obtain ⟨_,e⟩:=x; exact ⟨_,e⟩
 | xd fs=>obtain ⟨_,⟨_,_,_,e,_⟩,_⟩:=x; exact ⟨_,e⟩
 | rng lo hi=>obtain ⟨_,_,_,e⟩:=x; exact ⟨_,e⟩
 | frz ob u=>obtain ⟨e,_⟩:=x; exact ⟨_,e⟩
 | tbl ps=>exact ⟨_,(show h.get? a=some _ from x)⟩
 | met f y=>exact ⟨_,(show h.get? a=some _ from x)⟩
 | ext φ=>obtain ⟨_,⟨_,e⟩,_⟩:=x; exact ⟨_,e⟩
theorem HOk.freshN {P:Program} {w:World} {H:Hp} {h:Heap} {a:Addr} (x:HOk P w H h) (e:h.get? a=none):H a=none:=by
 cases q:H a with
 | none=>rfl
 | some u =>
  obtain ⟨ob,e'⟩:=(x a u q).there
  rw [e] at e'; cases e'
theorem Inv.laidN {X:Cx} {pins:List (Addr × Obj)} {σ:St} {H:Hp} {s:Shared} {h':Heap} {a:Addr} {o:HO} {t':Nat} (I:Inv X pins σ H s) (k:∀ b u,s.heap.get? b=some u->h'.get? b=some u) (hp:s.heap.get? a=none)
  (new:tZ X.prog X.w (upd H a o) h' a o):Inv X pins σ (upd H a o) { s with heap:=h',toks:=t' }:=by
 have hn:H a=none:=I.hok.freshN hp
 refine I.un ⟨fun b u q _ _ _=>k b u q,fun b u q _ _ _=>⟨u.slots,k b u q⟩,fun b u q n _=>?_,fun b u q _=>⟨u,k b u q⟩,fun b xs q=>?_,fun b u xs q=>?_,fun b ps q=>⟨#[],?_⟩⟩ fun b u e=>?_
 ·rw [kQ (fun z=>by subst z; rw [hp] at q; cases q)]; exact n
 ·rw [kQ (jQ q hn)]; exact q
 ·rw [kQ (jQ q hn)]; exact q
 ·rw [kQ (jQ q hn),q]; simp
 ·by_cases hb:b=a
  ·subst hb; rw [dQ] at e; cases e; exact new
  ·rw [kQ hb] at e
   exact (I.hok b u e).stay (fun c v _ q=>k c v q) (fun c q=>by rw [kQ (jQ q hn)]; exact q) fun c xs q=>by rw [kQ (jQ q hn)]; exact q
theorem kO {c A B:Prop} [Decidable c] (hc:c) (h:A):if decide c=true then A else B:=by
 rw [if_pos (decide_eq_true hc)]; exact h
theorem kW {c A B:Prop} [Decidable c] (hc:¬ c) (h:B):if decide c=true then A else B:=by
 rw [if_neg (by rw [decide_eq_false hc]; exact Bool.false_ne_true)]; exact h
theorem sX {c A B:Prop} [Decidable c] (h1:c->A) (h2:¬ c->B):if decide c=true then A else B:=by
 by_cases h:c
 ·exact kO h (h1 h)
 ·exact kW h (h2 h)
theorem iQ.new {H:Hp} {p:Addr} (h:H p=none) (o:HO):iQ H (upd H p o):=fun b u q=>by rw [kQ (jQ q h)]; exact q
end L2
namespace L2
open PySem PySem.Spec PyProof.Rows
def clOf (cells:List (Str × Addr)):List (Str × NameKind)->List (Str × Addr)->List (Str × Addr)
 | [],acc=>acc
 | (x,k) :: r,acc=>if (k == .free)=true then clOf cells r ((x,(cells.lookup x).getD 0) :: acc) else clOf cells r acc
theorem lU {cells:List (Str × Addr)} {x:Str} {c:Addr}:∀ {names:List (Str × NameKind)} {acc:List (Str × Addr)},(clOf cells names acc).lookup x=some c->acc.lookup x=some c\/((cells.lookup x).getD 0=c/\(x,NameKind.free)∈names)
 | [],acc,h=>.inl h
 | (y,k) :: r,acc,h=>by
  unfold clOf at h
  by_cases hk:(k == NameKind.free)=true
  ·rw [if_pos hk] at h
   have ek:k = .free:=by simpa using hk
   rcases lU h with h | ⟨h,m⟩
   ·rw [List.lookup_cons] at h
    cases hx:x == y with
    | true =>
     rw [hx] at h
     have e:x=y:=by simpa using hx
     subst e
     exact .inr ⟨Option.some.inj h,by rw [ek]; exact List.mem_cons_self⟩
    | false =>
     rw [hx] at h
     exact .inl h
   ·exact .inr ⟨h,List.mem_cons_of_mem _ m⟩
  ·rw [if_neg hk] at h
   rcases lU h with h | ⟨h,m⟩
   ·exact .inl h
   ·exact .inr ⟨h,List.mem_cons_of_mem _ m⟩
theorem f0Q {cells:List (Str × Addr)} {x:Str}:∀ {names:List (Str × NameKind)} {acc:List (Str × Addr)},((x,NameKind.free)∈names\/∃ c,acc.lookup x=some c)->∃ c,(clOf cells names acc).lookup x=some c
 | [],acc,h=>by
  rcases h with h | h
  ·cases h
  ·exact h
 | (y,k) :: r,acc,h=>by
  unfold clOf
  by_cases hk:(k == NameKind.free)=true
  ·rw [if_pos hk]
   apply f0Q
   by_cases hx:x=y
   ·subst hx
    exact .inr ⟨(cells.lookup x).getD 0,by rw [List.lookup_cons,beq_self_eq_true]⟩
   ·rcases h with h | ⟨c,h⟩
    ·rcases List.mem_cons.mp h with e | h
     ·cases e; exact absurd rfl hx
     ·exact .inl h
    ·refine .inr ⟨c,?_⟩
     rw [List.lookup_cons]
     have:(x == y)=false:=by simpa using hx
     rw [this]
     exact h
  ·rw [if_neg hk]
   apply f0Q
   rcases h with h | h
   ·rcases List.mem_cons.mp h with e | h
    ·cases e; exact absurd rfl hk
    ·exact .inl h
   ·exact .inr h
theorem m4Q {scope:Scope} {env:Env} (h:∀ y∈scope.names,y.2 = .free->∃ c,env.cells.lookup y.1=some c):closureFor scope env=pure (clOf env.cells scope.names []):=by
 have key:∀ (names:List (Str × NameKind)) (cs:List (Str × Addr)),(∀ y∈names,y.2 = .free->∃ c,env.cells.lookup y.1=some c) ->
   (forIn (m:=Sem) names cs fun (x:Str × NameKind) (r:List (Str × Addr))=>(match x with
    | (name,kind)=>if (kind == NameKind.free)=true then (do let a <- cellOf env name; pure (ForInStep.yield ((name,a) :: r))) else pure (ForInStep.yield r)))=pure (clOf env.cells names cs):=by
  intro names
  induction names with
  | nil=>intro cs _; rfl
  | cons y r ih =>
   intro cs hy
   obtain ⟨x,k⟩:=y
   rw [List.forIn_cons]
   unfold clOf
   by_cases hk:(k == NameKind.free)=true
   ·obtain ⟨c,hc⟩:=hy (x,k) List.mem_cons_self (by simpa using hk)
    have hc':env.cells.lookup x=some c:=hc
    have e1:cellOf env x=pure c:=by unfold cellOf; rw [hc']
    simp only [hk,if_true,e1,pure_bind,hc',Option.getD_some]
    exact ih _ fun z hz=>hy z (List.mem_cons_of_mem _ hz)
   ·simp only [if_neg hk,pure_bind]
    exact ih _ fun z hz=>hy z (List.mem_cons_of_mem _ hz)
 have:=key scope.names [] h
 simp only [closureFor]
 rw [this]
 rfl
theorem g0Q {env:Env}:∀ {names:List (Str × NameKind)} {x:Str},names.lookup x=some .free ->
  (names.map fun (n,k)=>if (k == NameKind.free && env.scope.kind == .function && env.kindOf n == some .cell) then (n,NameKind.cell) else (n,k)).lookup x=some .cell \/
  (names.map fun (n,k)=>if (k == NameKind.free && env.scope.kind == .function && env.kindOf n == some .cell) then (n,NameKind.cell) else (n,k)).lookup x=some .free
 | [],_,h=>by simp at h
 | (n,k) :: r,x,h=>by
  have ih:=@g0Q env r x
  cases hx:x == n with
  | true =>
   rw [List.lookup_cons,hx] at h
   dsimp only at h
   cases h
   by_cases hc:(NameKind.free == NameKind.free && env.scope.kind == .function && env.kindOf n == some .cell)=true
   ·left
    rw [List.map_cons]
    show List.lookup x ((if (NameKind.free == NameKind.free && env.scope.kind == .function && env.kindOf n == some .cell)=true then (n,NameKind.cell) else (n,NameKind.free)) :: _)=_
    rw [if_pos hc,List.lookup_cons,hx]
   ·right
    rw [List.map_cons]
    show List.lookup x ((if (NameKind.free == NameKind.free && env.scope.kind == .function && env.kindOf n == some .cell)=true then (n,NameKind.cell) else (n,NameKind.free)) :: _)=_
    rw [if_neg hc,List.lookup_cons,hx]
  | false =>
   rw [List.lookup_cons,hx] at h
   dsimp only at h
   rw [List.map_cons]
   show List.lookup x ((if (k == NameKind.free && env.scope.kind == .function && env.kindOf n == some .cell)=true then (n,NameKind.cell) else (n,k)) :: _)=_ \/
    List.lookup x ((if (k == NameKind.free && env.scope.kind == .function && env.kindOf n == some .cell)=true then (n,NameKind.cell) else (n,k)) :: _)=_
   by_cases hc :
    (k == NameKind.free && env.scope.kind == .function && env.kindOf n == some .cell)=true
   ·rw [if_pos hc,List.lookup_cons,hx]; exact ih h
   ·rw [if_neg hc,List.lookup_cons,hx]; exact ih h
theorem oK {env:Env}:∀ {names:List (Str × NameKind)} {x:Str} {k:NameKind},(names.map fun (n,k)=>if (k == NameKind.free && env.scope.kind == .function && env.kindOf n == some .cell) then (n,NameKind.cell) else (n,k)).lookup x=some k ->
  ∃ k',(x,k')∈names/\(k'=k\/k' = .free)
 | [],_,_,h=>by simp at h
 | (n,k0) :: r,x,k,h=>by
  have ih:=@oK env r x k
  rw [List.map_cons] at h
  have h':List.lookup x ((if (k0 == NameKind.free && env.scope.kind == .function && env.kindOf n == some .cell)=true then (n,NameKind.cell) else (n,k0)) :: (r.map fun (n,k)=>if (k == NameKind.free && env.scope.kind == .function && env.kindOf n == some .cell) then (n,NameKind.cell) else (n,k)))=some k:=h
  cases hx:x == n with
  | true =>
   have e:x=n:=by simpa using hx
   subst e
   by_cases hc:(k0 == NameKind.free && env.scope.kind == .function && env.kindOf x == some .cell)=true
   ·have ek:k0 = .free:=by
     have:=(Bool.and_eq_true_iff.mp (Bool.and_eq_true_iff.mp hc).1).1
     simpa using this
    exact ⟨k0,List.mem_cons_self,.inr ek⟩
   ·rw [if_neg hc,List.lookup_cons,hx] at h'
    exact ⟨k0,List.mem_cons_self,.inl (Option.some.inj h')⟩
  | false =>
   have h2:List.lookup x (r.map fun (n,k)=>if (k == NameKind.free && env.scope.kind == .function && env.kindOf n == some .cell) then (n,NameKind.cell) else (n,k))=some k:=by
    by_cases hc:(k0 == NameKind.free && env.scope.kind == .function && env.kindOf n == some .cell)=true
    ·rw [if_pos hc,List.lookup_cons,hx] at h'; exact h'
    ·rw [if_neg hc,List.lookup_cons,hx] at h'; exact h'
   obtain ⟨k',m,e⟩:=ih h2
   exact ⟨k',List.mem_cons_of_mem _ m,e⟩
structure vY (outer:Scope) (NX:List Str) (N:List Str) (ix:List (Option Nat)) (scope:Scope):Prop where
 kind:scope.kind = .function
 nocell:∀ y∈scope.names,y.2 ≠ .cell
 names:∀ y∈scope.names,y.2 = .local->scope.names.lookup y.1=some .local
 free:∀ y∈scope.names,y.2 = .free->outer.names.lookup y.1=some .cell\/outer.names.lookup y.1=some .free
 len:ix.length=N.length
 frees:(N.zip ix).all (fun p=>match p.2 with | none=>true | some i=>NX[i]? == some p.1 && scope.names.lookup p.1 == some .free)=true
def Cx.blk (X:Cx) (N:List Str) (scope:Scope) (C:Addr) (s₀:Shared) (H₀:Hp) (ex:List Addr):Cx:=
 { X with N:=N,env:=compEnvC scope (clOf X.env.cells scope.names []) C X.env,s₀:=s₀,H₀:=H₀,outer:=X.stack,stack:=X.stack,ex:=ex,fn:=fun _=>false,pn:=[],xe:=fun _ _=>False }
def sgB (ix:List (Option Nat)) (σ:St):St:=ix.map fun o=>match o with | none=>none | some i=>(σ[i]?).getD none
theorem j9Q {X:Cx} {pins:List (Addr × Obj)} {σ:St} {H:Hp} {s:Shared} {outer:Scope} {NX N:List Str} {ix:List (Option Nat)} {scope:Scope} (I:Inv X pins σ H s) (S:vY X.env.scope NX N ix scope) {x:Str} {c:Addr}
  (h:(clOf X.env.cells scope.names []).lookup x=some c):X.env.cells.lookup x=some c:=by
 rcases lU h with h | ⟨h,m⟩
 ·cases h
 ·have hk:=S.free (x,.free) m rfl
  obtain ⟨c',e⟩:=I.ok.has x hk
  rw [e] at h
  rw [e]
  exact congrArg some h
theorem e8Z {X:Cx} {pins:List (Addr × Obj)} {σ:St} {H:Hp} {s₃:Shared} {NX N:List Str} {ix:List (Option Nat)} {scope:Scope} {fp:List Addr} {h₁:Heap} {t:Nat} (I:Inv X pins σ H s₃) (S:vY X.env.scope X.N N ix scope)
  (hf:∀ b∈fp,pO X pins H b) (hlt:∀ b∈fp,b < s₃.heap.objs.size) (hns:∃ m,h₁.Ns s₃.heap.objs.size m) (hk:∀ b o,s₃.heap.get? b=some o->h₁.get? b=some o) :
  Inv (X.blk N scope s₃.heap.objs.size s₃ H fp) [] (sgB ix σ) H { s₃ with heap:=h₁,toks:=t }:=by
 have nofr:∀ b∈fp,b∉frs X.stack:=fun b hb z=>by
  rcases List.mem_cons.mp (I.stkSub b z) with e | e
  ·exact (hf b hb).2.1 e
  ·exact (hf b hb).2.2.1 e
 have clc:∀ {x:Str} {c:Addr},(clOf X.env.cells scope.names []).lookup x=some c->X.env.cells.lookup x=some c:=fun h=>j9Q (outer:=X.env.scope) I S h
 have ok:(X.blk N scope s₃.heap.objs.size s₃ H fp).Ok:=by
  refine ⟨I.ok.mod,S.kind,I.ok.glob,I.ok.blt,Nat.le_refl _,fun x y c h1 h2=>I.ok.inj x y c (clc h1) (clc h2),fun x hx=>?_,fun x c z _=>absurd z (by show ¬ (false=true); decide),I.ok.hd,I.ok.frames,.inl rfl,fun b hb=>⟨Nat.ne_of_lt (hlt b hb),fun x c h=>(hf b hb).2.2.2.2.1 x c (clc h)⟩,
   I.bs,Nat.le_trans I.ok.bsz I.sz,fun b o e hb=>?_,nofr,I.stack,I.stkFree⟩
  ·have hm:(x,NameKind.free)∈scope.names:=by
    rcases hx with hx | hx
    ·obtain ⟨k',m,e⟩:=oK (env:=X.env) (show (relabel scope X.env).names.lookup x=some .cell from hx)
     rcases e with e | e
     ·exact absurd e (S.nocell _ m)
     ·rw [e] at m; exact m
    ·obtain ⟨k',m,e⟩:=oK (env:=X.env) (show (relabel scope X.env).names.lookup x=some .free from hx)
     rcases e with e | e <;> (rw [e] at m; exact m)
   exact f0Q (.inl hm)
  ·have h0:=(I.ok.bs b o e).1
   rcases (hf b hb).2.2.2.1 with z | z
   ·exact I.ok.noex b o e z
   ·exact absurd (Nat.lt_of_lt_of_le (Heap.lt_size h0) z) (Nat.lt_irrefl _)
 obtain ⟨m,hn⟩:=hns
 refine ⟨ok,rfl,I.bare,Un.kept hk,⟨m,hn,fun j x v e1 e2 e3=>?_⟩,fun x c h=>?_,I.hok.fresh (Nat.le_refl _),fun x c h=>I.freeC x c (clc h),fun p hp=>absurd (show p∈([]:List (Addr × Obj)) from hp) (by simp),I.hok.kept hk,?_⟩
 ·have e1':N[j]?=some x:=e1
  have e2':(sgB ix σ)[j]?=some (some v):=e2
  unfold sgB at e2'
  rw [List.getElem?_map] at e2'
  cases eo:ix[j]? with
  | none=>rw [eo] at e2'; cases e2'
  | some o =>
   rw [eo] at e2'
   cases o with
   | none=>cases e2'
   | some i =>
    have e4:(σ[i]?).getD none=some v:=Option.some.inj e2'
    have hz:(N.zip ix)[j]?=some (x,some i):=by
     rw [List.getElem?_zip_eq_some]; exact ⟨e1',eo⟩
    have ha:=List.all_eq_true.mp S.frees _ (List.mem_of_getElem? hz)
    have ha':(X.N[i]? == some x && scope.names.lookup x == some .free)=true:=ha
    obtain ⟨h1,h2⟩:=Bool.and_eq_true_iff.mp ha'
    have hX:X.N[i]?=some x:=by simpa using h1
    have hfr:scope.names.lookup x=some .free:=by simpa using h2
    have hσ:σ[i]?=some (some v):=by
     cases q:σ[i]? with
     | none=>rw [q] at e4; cases e4
     | some w=>rw [q] at e4; exact congrArg some e4
    have hm:(x,NameKind.free)∈scope.names:=PySem.mem_of_lookup hfr
    have hv:=S.free _ hm rfl
    obtain ⟨mX,_,hl⟩:=I.loc
    obtain ⟨u,r,l⟩:=hl i x v hX hσ (.inr hv)
    refine ⟨u,r,.inr ⟨g0Q (env:=X.env) hfr,?_⟩⟩
    rcases l with ⟨k,_⟩ | ⟨_,c,ec,z⟩
    ·have k':X.env.scope.names.lookup x=some .local:=k
     rcases hv with hv | hv <;> (rw [hv] at k'; cases k')
    ·obtain ⟨c',ec'⟩:=f0Q (cells:=X.env.cells) (acc:=[]) (.inl hm)
     have:c'=c:=Option.some.inj ((clc ec').symm.trans ec)
     subst this
     obtain ⟨o,ho,hd⟩:=z
     exact ⟨c',ec',o,hk _ _ ho,hd⟩
 ·obtain ⟨v,o,ho,hd⟩:=I.cell x c (clc h)
  exact ⟨v,o,hk _ _ ho,hd⟩
 ·show (sgB ix σ).length=N.length
  unfold sgB
  rw [List.length_map,S.len]
theorem e5Q {X:Cx} {pins:List (Addr × Obj)} {σ σ':St} {H H':Hp} {s₃ s':Shared} {N:List Str} {scope:Scope} {fp:List Addr} {pins':List (Addr × Obj)} {h':Heap} (I:Inv X pins σ H s₃)
  (hf:∀ b∈fp,pO X pins H b) (I':Inv (X.blk N scope s₃.heap.objs.size s₃ H fp) pins' σ' H' s') (hs:Heap.SameBut s₃.heap.objs.size s'.heap h'):Inv X pins σ H' { s' with heap:=h' }:=by
 have ne:∀ b o,s₃.heap.get? b=some o->b≠s₃.heap.objs.size:=fun b o e=>Nat.ne_of_lt (Heap.lt_size e)
 have u:Un (frs X.stack) fp H H' s₃.heap s'.heap:=I'.base
 have u':Un (frs X.stack) fp H H' s₃.heap h':=by
  refine ⟨fun b o e n hb hx=>(hs.2 b (ne b o e)).trans (u.keep b o e n hb hx),fun b o e n hb hx=>?_,u.free,fun b o e hx=>?_,u.tups,u.frzs,u.tbls⟩
  ·obtain ⟨sl,q⟩:=u.slot b o e n hb hx
   exact ⟨sl,(hs.2 b (ne b o e)).trans q⟩
  ·obtain ⟨o',q⟩:=u.there b o e hx
   exact ⟨o',(hs.2 b (ne b o e)).trans q⟩
 have nC:H' s₃.heap.objs.size=none:=I'.free
 have hok:HOk X.prog X.w H' h':=fun b o e=>by
  refine (I'.hok b o e).stay (fun c v hc q=>(hs.2 c ?_).trans q) (fun _ q=>q) fun _ _ q=>q
  rcases hc with z | z
  ·rw [z]; intro w; rw [w] at e; rw [nC] at e; cases e
  ·intro w; rw [w] at z; rw [nC] at z; cases z
 exact I.call' (s':={ s' with heap:=h' }) (ch:=fp) I'.os u' hok I'.bare fun b hb=>⟨(hf b hb).2.2.2.1,(hf b hb).2.1,(hf b hb).2.2.2.2.1,(hf b hb).2.2.2.2.2⟩
def PTs (X:Cx) (ifs:List Expr) (t:TT):Prop:=
 ∀ (pins:List (Addr × Obj)) (s:Shared) (σ:St) (H:Hp) (Q:Bool->Hp->Prop),Inv X pins σ H s->t σ H Q ->
  wpAny (model X.prog X.w) X.A (forIn ifs true fun c r=>if r=true then do let ok <- isTrue c X.env (eval c X.env); pure (ForInStep.yield ok) else pure (ForInStep.yield r)) (TP X pins σ Q) X.xe s
def tTrue:TT:=fun _ H Q=>Q true H
theorem bW {X:Cx}:PTs X [] tTrue:=fun pins s σ H Q I h=>wpAny_tests_nil ⟨H,I,h⟩
theorem e2Q {X:Cx} {c:Expr} {t:TT} (h:PT X c t):PTs X [c] t:=fun pins s σ H Q I hw=>wpAny_tests_one (h pins s σ H Q I hw)
theorem d6Q {prog:Program} {w:World} {A:Around} {R:Result->Shared->Prop} {s:Shared} {elt target iter:Expr} {ifs:List Expr} {scope:Scope} {pos:Pos} {it acc:Value} {env:Env} (I:Nat->Shared->Prop)
  (turn:∀ n s,I n s ->
   wpAny (model prog w) A (pyNext it) (fun r s₁=>match r with
   | none=>R (.ok .next) s₁
   | some v=>wpAny (model prog w) A (letOwnedTupleGo target it v) (fun _ s₂=>wpAny (model prog w) A (assign target env v) (fun _ s₃ =>
     wpAny (model prog w) A (forIn ifs true fun c r=>if r=true then do let ok <- isTrue c env (eval c env); pure (ForInStep.yield ok) else pure (ForInStep.yield r)) (fun ok s₄ =>
      if ok=true then wpAny (model prog w) A (eval elt env) (fun x s₅ =>
       wpAny (model prog w) A (call (.builtin "list.append") [acc,x]) (fun _ s₆=>∃ m,m < n/\I m s₆) (fun _ _=>False) s₅) (fun _ _=>False) s₄
      else ∃ m,m < n/\I m s₄) (fun _ _=>False) s₃) (fun _ _=>False) s₂) (fun _ _=>False) s₁) (fun _ _=>False) s)
  (n:Nat) (h:I n s):codeAny (model prog w) A (.compLoop (.ListComp elt [⟨target,iter,ifs,0⟩] scope pos) 0 it acc env) R s:=by
 refine codeAny_loop rfl I (fun n s hTurn=>?_) n h
 show wpAny _ A
  ((compTurn (.ListComp elt [⟨target,iter,ifs,0⟩] scope pos) 0 it acc env).onRaise
   (fun x=>do noteFrame x env; theTreesLotGoes x)) _ _ s
 refine wpAny_noted ?_
 rw [compTurn_list]
 have no:∀ {E:Value->Shared->Prop} (x:Value) (s:Shared),False->E x s:=fun _ _ f=>f.elim
 refine wpAny_bind (wpAny_standAt (wpAny_bind (wpAny_mono (turn n s hTurn) (fun r s₁ h₁=>?_) no)))
 cases r with
 | none=>exact wpAny_pure h₁
 | some v =>
  refine wpAny_bind (wpAny_mono h₁ (fun _ s₂ h₂=>wpAny_bind (wpAny_mono h₂ (fun _ s₃ h₃=>wpAny_bind (wpAny_mono h₃ (fun ok s₄ h₄=>?_) no)) no)) no)
  cases ok with
  | false=>exact wpAny_pure ⟨rfl,h₄⟩
  | true=>exact wpAny_bind (wpAny_bind (wpAny_mono h₄ (fun x s₅ h₅=>wpAny_bind (wpAny_mono h₅ (fun _ s₆ h₆=>wpAny_pure (wpAny_pure ⟨rfl,h₆⟩)) no)) no))
def LcW (J:It) (D:Addr) (g:TG) (tt:TT) (te:TE) (Q:VK) (σ0:St) (H0:Hp):Prop:=
 ∃ W:Nat->Nat->List V->St->Hp->Prop,(∃ m,W 0 m [] σ0 H0)/\∀ i m ys σ' H',W i m ys σ' H' ->
  ((J.stop i H'/\Q (.ref D) H')\/(J.go i H'/\∃ N:List V->St->Hp->Prop,(∀ ys' σ2 H2,N ys' σ2 H2->∃ m',m' < m/\W (i + 1) m' ys' σ2 H2) /\
   ∀ x H2,J.yld i H' x H2->g x σ' H2 fun σ3 H3=>tt σ3 H3 fun b H4=>if b=true then te σ3 H4 fun y H5=>H5 D=some (.lst ys)/\ys.length < sizeLine/\N (ys++[y]) σ3 (upd H5 D (.lst (ys++[y]))) else N ys σ3 H4))
def tLc (ix:List (Option Nat)) (wi:TI) (g:TG) (tt:TT) (te:TE):TE:=fun σ H Q=>wi σ H fun J H1=>∀ D,H1 D=none->LcW J D g tt te Q (sgB ix σ) (upd H1 D (.lst []))
theorem s4Z {X:Cx} {elt tg iter:Expr} {ifs:List Expr} {scope:Scope} {pos ipos:Pos} {N:List Str} {ix:List (Option Nat)} {wi:TI} {g:TG} {tt:TT} {te:TE} (hc:X.calm=true) (S:vY X.env.scope X.N N ix scope) (hi:PI X tg iter wi)
  (hg:∀ C s₀ H₀ ex,PG (X.blk N scope C s₀ H₀ ex) tg g) (ht:∀ C s₀ H₀ ex,PTs (X.blk N scope C s₀ H₀ ex) ifs tt) (he:∀ C s₀ H₀ ex,PE (X.blk N scope C s₀ H₀ ex) elt te)
  (hs:∀ x,foldedSetIterable iter X.env x=pure x) {pins:List (Addr × Obj)} {s:Shared} {σ:St} {H:Hp} {Q:VK} (I:Inv X pins σ H s) (h:tLc ix wi g tt te σ H Q) (use:Option (Value->Sem Unit)) (Qv:Value->Shared->Prop)
  (fin:∀ {s₃ s6:Shared} {H3 H6:Hp} {σ6:St} {fp:List Addr} {D:Addr},Inv X pins σ H3 s₃->(∀ b∈fp,pO X pins H3 b)->Inv (X.blk N scope s₃.heap.objs.size s₃ H3 fp) [] σ6 H6 s6->Q (.ref D) H6 ->
   compPost (model X.prog X.w) X.A X.xe use Qv (.ref D) s₃.heap.objs.size (.ok .next) s6) :
  wpAny (model X.prog X.w) X.A (comprehension (.ListComp elt [⟨tg,iter,ifs,0⟩] scope pos) scope X.env ipos (newList []) false (eval iter X.env) use) Qv X.xe s:=by
 refine wpAny_comprehension_free (use:=use) rfl hs (m4Q fun y hy e=>I.ok.has y.1 (S.free y hy e)) S.kind S.names (thn (hi pins s σ H _ I h) fun xv s₁ h₁=>thn h₁ fun itv s₂ h₂=>?_)
 obtain ⟨it,fp,tn,J,H2,e,I2,T,st2,f2,lc⟩:=h₂
 subst e
 obtain ⟨W,⟨m0,w0⟩,turn⟩:=lc s₂.heap.objs.size (I2.hok.fresh (Nat.le_refl _))
 refine wpAny_newObj_type (wpAny_newFunctionEnv S.nocell (by intro y hy; simp at hy) (fun h₁ hns₁ hsb₁=>?_) S.kind)
 have I3:Inv X pins σ (upd H2 s₂.heap.objs.size (.lst [])) { s₂ with heap:=s₂.heap.push { cls:=.type "list",dict:=none,data:=.seq ([]:List Value).toArray } }:=
  I2.laid (t':=s₂.toks) (fun b u e=>Heap.get?_push_of_some _ e) (Nat.le_refl _) (show tZ X.prog X.w _ _ _ (.lst []) from ⟨Nat.zero_le _,[],0,.nil,Heap.get?_push_size _ rfl⟩)
 generalize hs3:({ s₂ with heap:=s₂.heap.push { cls:=.type "list",dict:=none,data:=.seq ([]:List Value).toArray } }:Shared)=s₃ at I3 hns₁ hsb₁ ⊢
 have old:∀ b o,s₃.heap.get? b=some o->h₁.get? b=some o:=fun b o e=>(hsb₁.2 b (Nat.ne_of_lt (Heap.lt_size e))).trans (Heap.get?_push_of_some _ e)
 have old2:∀ b o,s₂.heap.get? b=some o->s₃.heap.get? b=some o:=fun b o e=>by rw [<-hs3]; exact Heap.get?_push_of_some _ e
 have sz:s₃.heap.objs.size=s₂.heap.objs.size + 1:=by rw [<-hs3]; exact Heap.size_push ..
 have hlt2:∀ b∈fp,b < s₂.heap.objs.size:=fun b hb=>by
  obtain ⟨o,e,_⟩:=T.obj 0 _ st2 b hb
  exact Heap.lt_size e
 have hlt:∀ b∈fp,b < s₃.heap.objs.size:=fun b hb=>by rw [sz]; exact Nat.lt_succ_of_lt (hlt2 b hb)
 have f3:∀ b∈fp,pO X pins (upd H2 s₂.heap.objs.size (.lst [])) b:=fun b hb=>⟨by rw [kQ (Nat.ne_of_lt (hlt2 b hb))]; exact (f2 b hb).1,(f2 b hb).2⟩
 have I4:Inv (X.blk N scope s₃.heap.objs.size s₃ (upd H2 s₂.heap.objs.size (.lst [])) fp) [] (sgB ix σ) (upd H2 s₂.heap.objs.size (.lst [])) { s₃ with heap:=h₁,toks:=s₃.toks + ([]:List (Str × Value)).length }:=
  e8Z (NX:=X.N) I3 S f3 hlt ⟨_,hns₁⟩ old
 have st4:tn 0 h₁:=T.keep _ _ _ st2 fun b hb o e=>old b o (old2 b o e)
 have fixed:∀ b∈fp,b≠s₃.heap.objs.size/\b∉frs X.stack/\∀ x c,(clOf X.env.cells scope.names []).lookup x=some c->c≠b:=fun b hb =>
  ⟨Nat.ne_of_lt (hlt b hb),I4.ok.exfs b hb,fun x c h=>(I4.ok.exf b hb).2 x c h⟩
 have stat:∀ {H':Hp},(∀ b∈fp,H' b=none)->∀ b∈fp,pO (X.blk N scope s₃.heap.objs.size s₃ (upd H2 s₂.heap.objs.size (.lst [])) fp) [] H' b:=fun hn b hb =>
  ⟨hn b hb,(fixed b hb).1,(fixed b hb).2.1,.inl hb,(fixed b hb).2.2,fun p hp=>absurd (show p∈([]:List (Addr × Obj)) from hp) (by simp)⟩
 have loop:codeAny (model X.prog X.w) X.A (.compLoop (.ListComp elt [⟨tg,iter,ifs,0⟩] scope pos) 0 (.ref it) (.ref s₂.heap.objs.size) (compEnvC scope (clOf X.env.cells scope.names []) s₃.heap.objs.size X.env))
   (compPost (model X.prog X.w) X.A X.xe use Qv (.ref s₂.heap.objs.size) s₃.heap.objs.size) { s₃ with heap:=h₁,toks:=s₃.toks + ([]:List (Str × Value)).length }:=by
  refine d6Q (fun n s'=>∃ i ys σ' H',Inv (X.blk N scope s₃.heap.objs.size s₃ (upd H2 s₂.heap.objs.size (.lst [])) fp) [] σ' H' s'/\tn i s'.heap/\(∀ b∈fp,H' b=none)/\W i n ys σ' H') ?_ m0 ⟨0,[],sgB ix σ,_,I4,st4,fun b hb=>(f3 b hb).1,w0⟩
  rintro n s5 ⟨i,ys,σ5,H5,I5,st5,fr5,w5⟩
  rcases turn i n ys σ5 H5 w5 with ⟨stop,qn⟩ | ⟨go,Nn,hN,step⟩
  ·refine thn (T.done (X.blk N scope s₃.heap.objs.size s₃ (upd H2 s₂.heap.objs.size (.lst [])) fp) rfl rfl rfl hc i [] s5 σ5 H5 _ I5 (stat fr5) st5 stop) fun r s6 hh=>?_
   obtain ⟨hr,I6⟩:=hh
   subst hr
   exact fin I3 f3 I6 qn
  ·refine thn (T.item (X.blk N scope s₃.heap.objs.size s₃ (upd H2 s₂.heap.objs.size (.lst [])) fp) rfl rfl rfl hc i [] s5 σ5 H5 _ I5 (stat fr5) st5 go) fun r s6 hh=>?_
   obtain ⟨u,hr,h6⟩:=hh
   subst hr
   refine thn h6 fun _ s7 hh=>?_
   obtain ⟨x,H7,I7,r7,y7,st7,fr7⟩:=hh
   have I7':=I7.pinned (stat fr7) (T.obj _ _ st7)
   have again:∀ {ys':List V} {σ8:St} {H8:Hp} {s8:Shared},Inv (X.blk N scope s₃.heap.objs.size s₃ (upd H2 s₂.heap.objs.size (.lst [])) fp) ([]++n2Q fp s7.heap) σ8 H8 s8->Nn ys' σ8 H8 ->
     ∃ m,m < n/\∃ i ys σ' H',Inv (X.blk N scope s₃.heap.objs.size s₃ (upd H2 s₂.heap.objs.size (.lst [])) fp) [] σ' H' s8/\tn i s8.heap/\(∀ b∈fp,H' b=none)/\W i m ys σ' H':=fun {ys' σ8 H8 s8} I8 n8=>by
    obtain ⟨m',hm,w8⟩:=hN ys' σ8 H8 n8
    refine ⟨m',hm,i + 1,ys',σ8,H8,I8.unpinned,T.keep _ _ _ st7 fun b hb o e=>(I8.pin (b,o) (List.mem_append_right _ (List.mem_append_right _ (kK hb e)))).1,fun b hb=>?_,w8⟩
    obtain ⟨o,e,d⟩:=T.obj _ _ st7 b hb
    exact (I8.pin (b,o) (List.mem_append_right _ (List.mem_append_right _ (kK hb e)))).2.1
   refine thn (hg _ _ _ _ _ s7 σ5 H7 x u _ I7' r7 (step x H7 y7)) fun _ s8 hh=>?_
   obtain ⟨σ8,H8,I8,q8⟩:=hh
   refine thn (ht _ _ _ _ _ s8 σ8 H8 _ I8 q8) fun b s9 hh=>?_
   obtain ⟨H9,I9,q9⟩:=hh
   cases b with
   | false=>exact again I9 q9
   | true =>
    refine thn (he _ _ _ _ _ s9 σ8 H9 _ I9 q9) fun v s10 hh=>?_
    obtain ⟨y,H10,I10,r10,hD,hz,n10⟩:=hh
    refine thn (iX _ s10 σ8 H10 (.ref s₂.heap.objs.size) [y] (.ref s₂.heap.objs.size) [v] (fun _ H11=>Nn (ys++[y]) σ8 H11) I10 rfl (.cons r10 .nil) ⟨_,ys,y,rfl,rfl,hD,hz,n10⟩) fun _ s11 hh=>?_
    obtain ⟨_,H11,I11,_,n11⟩:=hh
    exact again I11 n11
 refine codeAny_compStart_list loop ?_
 exact T.self X.A 0 _ _ _ st4 loop
theorem nY {X:Cx} (osc:Scope) (NX:List Str) {elt tg iter:Expr} {ifs:List Expr} {scope:Scope} {pos:Pos} {N:List Str} {ix:List (Option Nat)} {wi:TI} {g:TG} {tt:TT} {te:TE} (hc:X.calm=true) (S:vY osc NX N ix scope) (hi:PI X tg iter wi)
  (hg:∀ C s₀ H₀ ex,PG (X.blk N scope C s₀ H₀ ex) tg g) (ht:∀ C s₀ H₀ ex,PTs (X.blk N scope C s₀ H₀ ex) ifs tt) (he:∀ C s₀ H₀ ex,PE (X.blk N scope C s₀ H₀ ex) elt te)
  (ho:X.env.scope=osc:=by rfl) (hN:X.N=NX:=by rfl) (hs:∀ x,foldedSetIterable iter X.env x=pure x:=by intro _; rfl):PE X (.ListComp elt [⟨tg,iter,ifs,0⟩] scope pos) (tLc ix wi g tt te):=by
 intro pins s σ H Q I h
 subst ho hN
 rw [eval_ListComp]
 refine s4Z hc S hi hg ht he hs I h none (EP X pins σ Q) fun {s₃ s6 H3 H6 σ6 fp D} I3 f3 I6 qn=>?_
 obtain ⟨m,hn,_⟩:=I6.loc
 exact ⟨m,hn,fun h' hs'=>⟨.ref D,H6,e5Q I3 f3 I6 hs',rfl,qn⟩⟩
theorem y9Z {X:Cx} (osc:Scope) (NX:List Str) {i:Nat} {y:Str} {py spos:Pos} {elt tg iter:Expr} {ifs:List Expr} {scope:Scope} {pos:Pos} {N:List Str} {ix:List (Option Nat)} {wi:TI} {g:TG} {tt:TT} {te:TE} (hc:X.calm=true) (hnd:X.N.Nodup) (hy:X.N[i]?=some y) (hl:Loc X.env.scope y)
  (S:vY osc NX N ix scope) (hi:PI X tg iter wi)
  (hg:∀ C s₀ H₀ ex,PG (X.blk N scope C s₀ H₀ ex) tg g) (ht:∀ C s₀ H₀ ex,PTs (X.blk N scope C s₀ H₀ ex) ifs tt) (he:∀ C s₀ H₀ ex,PE (X.blk N scope C s₀ H₀ ex) elt te)
  (ho:X.env.scope=osc:=by rfl) (hN:X.N=NX:=by rfl) (hs:∀ x,foldedSetIterable iter X.env x=pure x:=by intro _; rfl)
  (hsw:swapsWith (.ListComp elt [⟨tg,iter,ifs,0⟩] scope pos) (some (.Name y py)) spos.line X.env=pure true:=by rfl)
  (hf:X.fn y=true\/X.env.scope.names.lookup y=some .local:=by first | exact .inl rfl | exact .inr rfl | assumption) :
  PS X (.Assign [.Name y py] (.ListComp elt [⟨tg,iter,ifs,0⟩] scope pos) spos) (tAsg (tLc ix wi g tt te) (fX i)):=by
 intro pins s σ H D I h
 subst ho hN
 rw [exec_Assign_Name_used
  _ _ _ _ hsw]
 refine wpAny_bind
  (wpAny_standAt (wpAny_bind ?_))
 show wpAny _ X.A (do let _ <- comprehension (.ListComp elt [⟨tg,iter,ifs,0⟩] scope pos) scope X.env _ (newList []) false (eval iter X.env) (some (assign (.Name y py) X.env))) _ _ s
 refine wpAny_bind (wpAny_mono (s4Z hc S hi hg ht he hs I h (some (assign (.Name y py) X.env)) (fun _ s'=>SP X pins D .next s') fun {s₃ s6 H3 H6 σ6 fp Dn} I3 f3 I6 qn=>?_) (fun _ s' hq=>wpAny_pure (wpAny_pure hq)) fun _ _ e=>e)
 obtain ⟨m,hn,_⟩:=I6.loc
 have I7:Inv X pins σ H6 s6:=e5Q I3 f3 I6 (Heap.SameBut.refl ..)
 show wpAny _ X.A (assign (.Name y py) X.env (.ref Dn)) _ _ s6
 refine wpAny_assign_Name (p4Q I7 hnd hy hl (show qZ (.ref Dn) (.ref Dn) from rfl) (fun s8 I8 ch=>?_) hf)
 obtain ⟨a,hsb,ha⟩:=ch
 have lt3:∀ x c,X.env.cells.lookup x=some c->c≠s₃.heap.objs.size:=fun x c e z=>by
  obtain ⟨v,o,ho,_⟩:=I3.cell x c e
  exact absurd (Heap.lt_size ho) (by rw [z]; exact Nat.lt_irrefl _)
 have nL:X.env.locals≠s₃.heap.objs.size:=Nat.ne_of_lt I3.lt
 have nCa:s₃.heap.objs.size≠a:=by
  rcases ha with e | e
  ·rw [e]; exact nL.symm
  ·exact (lt3 y a e).symm
 have nC:H6 s₃.heap.objs.size=none:=I6.free
 refine ⟨m,hn.sameBut hsb nCa,fun h' hs'=>⟨_,H6,I8.turned (t':=s8.toks) (it:=s₃.heap.objs.size) (fun b o hb e=>(hs'.2 b hb).trans e) nC nL.symm (.inr I3.sz) lt3 (fun p hp z=>?_),qn⟩⟩
 have e:=(I3.pin p hp).1
 rw [z] at e
 exact Nat.lt_irrefl _ (Heap.lt_size e)
section
variable {K:W.Frag} {a D:Addr} {xs:List V} {g:TG} {tt:TT} {te:TE} {σ0:St} {H0:Hp} {Q:VK}
theorem qV (Pv:Nat->List V->St->Hp->Prop) (h0:Pv 0 [] σ0 H0) (hl:∀ i ys σ H,i<=xs.length->Pv i ys σ H->SqL K H a xs)
  (hs:∀ i x ys σ H,xs[i]?=some x->Pv i ys σ H->g x σ H fun σ3 H3=>tt σ3 H3 fun b H4=>if b=true then te σ3 H4 fun y H5=>H5 D=some (.lst ys)/\ys.length < sizeLine/\Pv (i + 1) (ys++[y]) σ3 (upd H5 D (.lst (ys++[y]))) else Pv (i + 1) ys σ3 H4)
  (hd:∀ ys σ H,Pv xs.length ys σ H->Q (.ref D) H) :
  LcW (Itl K a) D g tt te Q σ0 H0:=by
 refine ⟨fun i m ys σ H=>m=xs.length - i/\i<=xs.length/\Pv i ys σ H,⟨xs.length,by simp,Nat.zero_le _,h0⟩,?_⟩
 rintro i m ys σ H ⟨rfl,hi,p⟩
 have q:=hl i ys σ H hi p
 by_cases hlt:i < xs.length
 ·refine .inr ⟨⟨xs,xs[i],q,by simp [hlt]⟩,fun ys' σ' H'=>Pv (i + 1) ys' σ' H',fun ys' σ' H' p'=>⟨xs.length - (i + 1),by omega,rfl,hlt,p'⟩,fun x H' y=>?_⟩
  obtain ⟨e,y⟩:=y
  subst e
  exact hs i x ys σ _ (y xs q) p
 ·have e:i=xs.length:=by omega
  subst e
  exact .inl ⟨⟨xs,q,Nat.le_refl _⟩,hd ys σ H p⟩
theorem b3Q {lo:Int} {n:Nat} (Pv:Nat->List V->St->Hp->Prop) (h0:Pv 0 [] σ0 H0)
  (hs:∀ i ys σ H,i < n->Pv i ys σ H->g (.int (lo + i)) σ H fun σ3 H3=>tt σ3 H3 fun b H4=>if b=true then te σ3 H4 fun y H5=>H5 D=some (.lst ys)/\ys.length < sizeLine/\Pv (i + 1) (ys++[y]) σ3 (upd H5 D (.lst (ys++[y]))) else Pv (i + 1) ys σ3 H4)
  (hd:∀ ys σ H,Pv n ys σ H->Q (.ref D) H) :
  LcW (Itr lo n) D g tt te Q σ0 H0:=by
 refine ⟨fun i m ys σ H=>m=n - i/\i<=n/\Pv i ys σ H,⟨n,by simp,Nat.zero_le _,h0⟩,?_⟩
 rintro i m ys σ H ⟨rfl,hi,p⟩
 by_cases hlt:i < n
 ·refine .inr ⟨hlt,fun ys' σ' H'=>Pv (i + 1) ys' σ' H',fun ys' σ' H' p'=>⟨n - (i + 1),by omega,rfl,hlt,p'⟩,fun x H' y=>?_⟩
  obtain ⟨e,y⟩:=y
  subst e y
  exact hs i ys σ _ hlt p
 ·have e:i=n:=by omega
  subst e
  exact .inl ⟨Nat.le_refl _,hd ys σ H p⟩
end
end L2
namespace L2
open PySem PySem.Spec PyProof.Rows
section
variable {X:Cx}
def rCatE:R2:=fun x y H Q=>∃ a b xs ys,x = .ref a/\y = .ref b/\H a=some (.tup xs)/\H b=some (.tup ys)/\xs.length + ys.length<=sizeLine /\
 ∀ p H',iQ H H'->H' p=some (.tup (xs++ys))->Q (.ref p) H'
theorem f2Q:OpR X (binaryOp .Add) rCatE:=by
 intro pins s σ H x y v u Q I rx ry h
 obtain ⟨a,b,xs,ys,rfl,rfl,ha,hb,hz,q⟩:=h
 by_cases hx:xs=[]
 ·cases rx
  cases ry
  subst hx
  obtain ⟨its,r1,p1,_⟩:=I.tuple (SqT.of ha)
  obtain ⟨its2,r2,p2,_⟩:=I.tuple (SqT.of hb)
  have e1:its=[]:=r1.nil_iff.mpr rfl
  subst e1
  obtain ⟨⟨cls,dd,data,sl⟩,ho,hc,n,hd⟩:=id p1
  obtain ⟨⟨cls2,dd2,data2,sl2⟩,ho2,hc2,n2,hd2⟩:=id p2
  simp only at hc hd hc2 hd2
  subst hc hd hc2 hd2
  exact concat_meets ⟨_,ho,rfl⟩ ⟨_,ho2,rfl⟩ noFill_tuple_add seq_tuple_add PySem.F.slot_tuple_add PySem.F.entry_tuple_add (PySem.F.args_tuple_add_2 _ _)
   (tuple_addW0 a b _ _ n n2 dd dd2 sl sl2 (by simp)) ⟨ho,ho2,⟨.ref b,H,I,rfl,q b H (iQ.refl H) (by simpa using hb)⟩⟩
 ·refine y7Z pins s σ H (.ref a) (.ref b) v u Q I rx ry ⟨a,b,xs,ys,rfl,rfl,SqT.of ha,SqT.of hb,hx,hz,fun e=>?_,fun _ p hp=>?_⟩
  ·subst e
   exact q a H (iQ.refl H) (by simpa using ha)
  ·exact q p _ (iQ.new hp _) dQ
def rEqN (K:W.Frag) (neg:Bool):R2:=fun x y H Q=>∃ a b xs,x = .ref a/\y = .ref b/\SqL K H a xs/\SqL K H b []/\Q (.bl (if neg then !xs.isEmpty else xs.isEmpty)) H
theorem b1X (hu:X.A.units < cLine):OpR X (compareOp .Eq) (rEqN X.K false):=by
 intro pins s σ H x y v u Q I rx ry h
 obtain ⟨a,b,xs,rfl,rfl,ha,hb,q⟩:=h
 cases rx
 cases ry
 obtain ⟨its,r1,p1,_⟩:=I.list ha
 obtain ⟨its2,r2,p2,_⟩:=I.list hb
 have e2:its2=[]:=(rZ.nil_iff r2).mpr rfl
 subst e2
 cases xs with
 | nil =>
  have e1:its=[]:=(rZ.nil_iff r1).mpr rfl
  subst e1
  exact SeqAt.eq_listAt (e:=fun _=>true) p1.isList p2.isList rfl hu (fun j h1 _=>absurd h1 (by simp)) ⟨.bl true,H,I,rfl,q⟩
 | cons x r =>
  have hl:=r1.length
  exact SeqAt.eq_list_lengthsAt p1.isList p2.isList (by rw [List.size_toArray,List.size_toArray,<-hl]; simp) hu ⟨.bl false,H,I,rfl,q⟩
theorem k9Q {ys:List Str}:∀ {us:List Value},rZ (ys.map V.str) us->StrsAre us ys:=by
 induction ys with
 | nil=>intro us r; cases r; exact .nil
 | cons y r ih =>
  intro us h
  cases h with
  | cons a b=>obtain ⟨t,rfl⟩:=a; exact .cons _ _ (ih b)
theorem t4Z:MtR X "list.count" (fun x vs H Q=>∃ (a:Addr) (ys:List Str) (k:Str),x = .ref a/\vs=[.str k]/\SqL X.K H a (ys.map V.str)/\Q (.int (countIn (.str k) (ys.map PyData.str))) H):=by
 intro pins s σ H x vs v us Q I rx rv h
 obtain ⟨a,ys,k,rfl,rfl,hS,q⟩:=h
 cases rx
 obtain ⟨u,rfl,t',rfl⟩:=rv.one
 obtain ⟨its,r,pl,hz⟩:=I.list hS
 exact count_list_strs pl.isList (k9Q r) ⟨.int _,H,I.tok _,⟨_,rfl⟩,q⟩
theorem u4Z:MtR X "list.index" (fun x vs H Q=>∃ (a:Addr) (ns:List Int) (k:Int),x = .ref a/\vs=[.int k]/\SqL X.K H a (ns.map V.int)/\PyData.layable0 (.list (ns.map .int))=true/\k∈ns/\Q (.int (ns.idxOf k:Nat)) H):=by
 intro pins s σ H x vs v us Q I rx rv h
 obtain ⟨a,ns,k,rfl,rfl,hS,hl,hk,q⟩:=h
 cases rx
 obtain ⟨u,rfl,t',rfl⟩:=rv.one
 obtain ⟨its,r,pl,hz⟩:=I.list hS
 exact index_list_ints pl.isList (y2Q r) hl hk ⟨.int _,H,I.tok _,⟨_,rfl⟩,q⟩
end
theorem ixl {X:Cx} (K:W.Frag) (h:X.K=K:=by rfl):IxR X (rIxL K):=by
 subst h
 exact zQ
theorem ixt {X:Cx} (K:W.Frag) (h:X.K=K:=by rfl):IxR X (rIxT K):=by
 subst h
 exact pQ
def Cal (P:Program) (w:World) (K:W.Frag) (mg:Str->Option Value) (base:Heap) (k:Nat) (x:Str) (ps:List Str) (sp:Sp):Prop:=
 ∃ (f:Addr) (fd:FuncData),gU P w K mg base CX0 k f fd ps sp/\mY K fd ps []/\W.keepIn K (.ref f)=true/\mg x=some (.ref f)
theorem wQ {X:Cx} {k:Nat} {x:Str} {ps:List Str} {sp:Sp} {p pos:Pos} {e:Expr} {es:List Expr} {t:TA} (c:Cal X.prog X.w X.K X.mg X.base k x ps sp) (hr:sZ k X.A) (hg:Gl X x) (ha:PA X (e :: es) t)
  (hdb:(x == ("__debug__":Str))=false:=by decide) (he:starEach (e :: es) X.env=(false,eval e X.env) :: starEach es X.env:=by rfl) (hpl:(backTo pos (starEach es X.env)).any (·.1)=false:=by rfl) :
  PE X (.Call (.Name x p) (e :: es) [] pos) (v9Z sp [] E0 t):=by
 obtain ⟨f,fd,F,b,kp,m⟩:=c
 exact s7Z F hr hg m kp b .nil o0Z ha hdb he hpl
def Has (K:W.Frag) (mg:Str->Option Value) (x:Str) (st:Stmt) (ps:List Str):Prop:=∃ (f:Addr) (fd:FuncData),Fun K x x st f fd/\mY K fd ps []/\mg x=some (.ref f)
theorem Has.cal {P:Program} {w:World} {K:W.Frag} {mg:Str->Option Value} {base:Heap} {x:Str} {st:Stmt} {N ps:List Str} {k:Nat} {sp:Sp} (h:Has K mg x st ps) (S:yQ N ps (gQ st)) (len:∀ vs H Q E,sp vs H Q E->vs.length=ps.length)
  (hbody:∀ (f:Addr) (cdv:Value) (A:Around) (outer:List Env) (s:Shared) (H:Hp) (vs:List V) (Q:VK) (E:XK),sZ k (A.deeper (envOfC x (gQ st) s.heap.objs.size f cdv))->sp vs H Q E ->
   ∃ t,PSs (cxOf CX0 P w K mg base N x (gQ st) f cdv A outer s H E).nox (vQ st) t/\t { nx:=fun _ H'=>Q .non H',rt:=Q } (start N vs) H):Cal P w K mg base (k + 1) x ps sp:=by
 obtain ⟨f,fd,F,b,m⟩:=h
 exact ⟨f,fd,F.ok S len fun cdv A outer s H vs Q E hr h=>hbody f cdv A outer s H vs Q E hr h,b,F.kp,m⟩
theorem Has.none {P:Program} {w:World} {K:W.Frag} {mg:Str->Option Value} {base:Heap} {x:Str} {st:Stmt} {ps:List Str} {k:Nat} {sp:Sp} (h:Has K mg x st ps) (no:∀ vs H Q E,¬ sp vs H Q E):Cal P w K mg base k x ps sp:=by
 obtain ⟨f,fd,F,b,m⟩:=h
 exact ⟨f,fd,⟨fun vs H Q E h=>absurd h (no vs H Q E),fun A outer s H args us vs Q E _ _ _ _ h=>absurd h (no vs H Q E)⟩,b,F.kp,m⟩
theorem Has.mk {K:W.Frag} {h:Heap} {mg:Str->Option Value} {x:Str} {st:Stmt} {ps:List Str} {f:Addr} {oc:Value} {od an:Option Addr} {osl:Array (Option Value)} {kV doc pm cdv ct:Value} (X:K.In h) (G:h.Ns mainGlobals mg)
  (a:W.nsIn K mainGlobals x=some (some (.ref f))) (l:K.lookup f=some ⟨oc,od,.func (W.fnOf x x (xQ st) (vQ st) (gQ st) .none kV doc pm an cdv ct),osl⟩) (c:W.codeIn K cdv x=true) (k:W.keepIn K (.ref f)=true)
  (hb:∀ (kV doc pm:Value) (an:Option Addr) (cdv ct:Value) (us:List Value),us.length=ps.length->bindArgs (W.fnOf x x (xQ st) (vQ st) (gQ st) .none kV doc pm an cdv ct) ⟨us,[]⟩=pure (ps.zip us)):Has K mg x st ps:=
 ⟨f,_,kU (st:=st) l c k,(kU (st:=st) l c k).binds hb,W.mg_of X G a⟩
end L2
namespace L2
open PySem PySem.Spec PyProof.Rows
section
variable {prog:Program} {w:World} {A:Around} {E:Value->Shared->Prop} {s:Shared}
theorem c1X {it t:Addr} {i:Nat} {items:Array Value} {x:Value} {Q:Value->Shared->Prop} (hit:s.heap.IsTupleIter it t i) (ht:s.heap.IsTuple t items) (hx:items[i]?=some x)
  (hQ:∀ h',h'.IsTupleIter it t (i + 1)->Heap.SameBut it s.heap h'->Q x { s with heap:=h' }):wpAny (model prog w) A (Builtin.SmallTypes.nextOf (.ref it)) Q E s:=by
 obtain ⟨o,ho,hc,hd⟩:=id hit; obtain ⟨ol,hol,_,nl,hdl⟩:=ht
 (unfold Builtin.SmallTypes.nextOf)
 refine wpAny_bind (wpAny_callSpecial?_slot (name:=Str.ofString "__next__") hit.typeIs F.slot_tuple_iterator_next (wpAny_call_entry F.slot_tuple_iterator_next hit.typeIs F.entry_tuple_iterator_next ?_ (F.args_tuple_iterator_next_1 _)))
 (show wpAny _ _ (field (.ref it) 0 >>= _) _ _ s; refine wpAny_bind (wpAny_field ho hd (x:=.ref t) rfl ?_))
 (show wpAny _ _ (if (Value.ref t == Value.none)=true then _ else _) _ _ s; rw [if_neg (show ¬ ((Value.ref t == Value.none)=true) from Bool.false_ne_true)])
 (show wpAny _ _ (field (.ref it) 1 >>= _) _ _ s; refine wpAny_bind (wpAny_field ho hd (x:=.int i 0) rfl ?_))
 (show wpAny _ _ (seqItems? (.ref t) >>= _) _ _ s; refine wpAny_bind (wpAny_seqItems hol hdl ?_); simp only [Int.toNat_natCast,hx])
 refine wpAny_bind (wpAny_setField ho hd (by simp) (wpAny_pure ⟨x,rfl,wpAny_pure (hQ _ ⟨_,Heap.get?_update_self _ ho (Obj.isFreed_of_fields (Obj.data_mapFields hd _)),(Obj.cls_mapFields ..).trans hc,?_⟩ (Heap.SameBut.update ..))⟩))
 rw [Obj.data_mapFields hd]
 simp [rawInt]
theorem v4Z {z za zb i1 i2 l1 l2:Addr} {k:Nat} {xs ys:Array Value} {x y a b:Value} {Q:Option Value->Shared->Prop} (D:ZipApart z za zb i1 i2 l1 l2)
  (ez:IsZip s.heap z za zb .none) (eI:IsPair s.heap za (.ref i1) (.ref i2)) (eO:IsPair s.heap zb a b) (h1:s.heap.IsListIter i1 l1 k) (h2:s.heap.IsTupleIter i2 l2 k) (hl1:s.heap.IsList l1 xs) (hl2:s.heap.IsTuple l2 ys) (hx:xs[k]?=some x) (hy:ys[k]?=some y)
  (hQ:∀ h',IsZip h' z za zb (rawInt s.heap.objs.size)->IsPair h' zb x y->h'.IsListIter i1 l1 (k + 1)->h'.IsTupleIter i2 l2 (k + 1)->IsPair h' s.heap.objs.size x y ->
   (∀ c o,c≠z->c≠zb->c≠i1->c≠i2->s.heap.get? c=some o->h'.get? c=some o)->Q (some (.ref s.heap.objs.size)) { s with heap:=h' }):wpAny (model prog w) A (pyNext (.ref z)) Q E s:=by
 have tyz:s.TypeIs (.ref z) "zip":=⟨_,ez,rfl⟩
 unfold pyNext
 refine wpAny_bind (wpAny_attempt (wpAny_callSpecial?_slot (name:=Str.ofString "__next__") tyz F.slot_zip_next (wpAny_call_entry F.slot_zip_next tyz F.entry_zip_next ?_ (F.args_zip_next_1 _))))
 (show wpAny _ _ (field (.ref z) 2 >>= _) _ _ _; refine wpAny_bind (wpAny_field ez rfl (x:=.bool false) rfl ?_))
 (show wpAny _ _ (field (.ref z) 3 >>= _) _ _ _; refine wpAny_bind (wpAny_field ez rfl (x:=.ref za) rfl (wpAny_bind (wpAny_seqItems eI rfl ?_))))
 (show wpAny _ _ (Builtin.SmallTypes.ownedTupleIsFree (.ref z) >>= _) _ _ _; refine wpAny_bind ?_; unfold Builtin.SmallTypes.ownedTupleIsFree)
 (refine wpAny_bind (wpAny_field ez rfl (x:=.none) rfl (wpAny_pure ?_)); simp only [if_true])
 refine wpAny_bind (wpAny_rule (wpAny_bind (wpAny_field ez rfl (x:=.ref zb) rfl (wpAny_bind (wpAny_setField_rec ez (by simp) fun g1 ez1 sb1=>?_)))))
 replace ez1:IsZip g1 z za zb .ellipsis:=ez1
 (refine wpAny_bind ?_; simp only [List.zipIdx_cons,List.zipIdx_nil,List.forIn_cons,List.forIn_nil])
 (refine wpAny_bind (wpAny_bind (wpAny_onRaise ?_)); show wpAny _ _ (Builtin.SmallTypes.nextOf (.ref i1) >>= _) _ _ _)
 refine wpAny_bind (wpAny_nextOf_list_item (h1.extBut sb1.extBut D.i1z) (hl1.extBut sb1.extBut D.l1z) hx fun g2 ia2 sb2=>wpAny_pure ?_)
 have eO2:IsPair g2 zb a b:=sb2.extBut _ _ D.TOi1 (sb1.extBut _ _ D.TOz eO)
 refine wpAny_bind (wpAny_seqItems eO2 rfl (wpAny_bind (wpAny_updateSeq_pair eO2 fun g3 eO3 sb3=>?_)))
 replace eO3:IsPair g3 zb x b:=eO3
 refine wpAny_bind (wpAny_letGo (wpAny_pure (wpAny_bind (wpAny_bind (wpAny_onRaise ?_)))))
 (show wpAny _ _ (Builtin.SmallTypes.nextOf (.ref i2) >>= _) _ _ _)
 refine wpAny_bind (c1X (((h2.extBut sb1.extBut D.i2z).extBut sb2.extBut D.i12.symm).extBut sb3.extBut D.TOi2.symm) (((hl2.extBut sb1.extBut D.l2z).extBut sb2.extBut D.l2i1).extBut sb3.extBut D.l2TO) hy fun g4 ib4 sb4=>wpAny_pure ?_)
 have eO4:IsPair g4 zb x b:=sb4.extBut _ _ D.TOi2 eO3
 refine wpAny_bind (wpAny_seqItems eO4 rfl (wpAny_bind (wpAny_updateSeq_pair eO4 fun g5 eO5 sb5=>?_)))
 replace eO5:IsPair g5 zb x y:=eO5
 refine wpAny_bind (wpAny_letGo (wpAny_pure (wpAny_pure (wpAny_bind (wpAny_seqItems eO5 rfl (wpAny_bind (wpAny_newTuple ?_)))))))
 have esz:g5.objs.size=s.heap.objs.size:=by rw [sb5.1,sb4.1,sb3.1,sb2.1]; exact sb1.1
 have ez5:IsZip g5 z za zb .ellipsis:=sb5.extBut _ _ D.TOz.symm (sb4.extBut _ _ D.i2z.symm (sb3.extBut _ _ D.TOz.symm (sb2.extBut _ _ D.i1z.symm ez1)))
 have kp5:∀ c o,c≠z->c≠zb->c≠i1->c≠i2->s.heap.get? c=some o->g5.get? c=some o:=fun c o n1 n2 n3 n4 e=>sb5.extBut _ _ n2 (sb4.extBut _ _ n4 (sb3.extBut _ _ n2 (sb2.extBut _ _ n3 (sb1.extBut _ _ n1 e))))
 have ia5:g5.IsListIter i1 l1 (k + 1):=((ia2.extBut sb3.extBut D.TOi1.symm).extBut sb4.extBut D.i12).extBut sb5.extBut D.TOi1.symm
 have ib5:g5.IsTupleIter i2 l2 (k + 1):=ib4.extBut sb5.extBut D.TOi2.symm
 have zlt:z < g5.objs.size:=Heap.lt_size ez5
 (show wpAny _ _ (Builtin.SmallTypes.ownedTupleHandOut (.ref z) (.ref g5.objs.size) >>= _) _ _ _; refine wpAny_bind ?_; unfold Builtin.SmallTypes.ownedTupleHandOut)
 have ez6:IsZip (g5.push { cls:=.type "tuple",data:=.seq #[x,y] }) z za zb .ellipsis:=Heap.get?_push_of_some _ ez5
 refine wpAny_bind (wpAny_setField_rec ez6 (by simp) fun g7 ez7 sb7=>?_)
 replace ez7:IsZip g7 z za zb (rawInt g5.objs.size):=ez7
 refine wpAny_setField_rec ez7 (by simp) fun g8 ez8 sb8=>?_
 replace ez8:IsZip g8 z za zb (rawInt g5.objs.size):=ez8
 have up:∀ c o,c≠z->g5.get? c=some o->g8.get? c=some o:=fun c o n1 e=>sb8.extBut _ _ n1 (sb7.extBut _ _ n1 (Heap.get?_push_of_some _ e))
 have pT8:IsPair g8 g5.objs.size x y:=sb8.extBut _ _ (Nat.ne_of_gt zlt) (sb7.extBut _ _ (Nat.ne_of_gt zlt) (Heap.get?_push_size _ rfl))
 rw [esz] at ez8 pT8
 refine wpAny_pure ⟨_,rfl,wpAny_pure ?_⟩
 show Q (some (.ref g5.objs.size)) _
 rw [esz]
 exact hQ g8 ez8 (up _ _ D.TOz eO5) (by obtain ⟨o,e,r⟩:=ia5; exact ⟨o,up _ _ D.i1z e,r⟩) (by obtain ⟨o,e,r⟩:=ib5; exact ⟨o,up _ _ D.i2z e,r⟩) pT8 fun c o n1 n2 n3 n4 e=>up c o n1 (kp5 c o n1 n2 n3 n4 e)
theorem f8Z {z za zb i1 i2 l1:Addr} {k:Nat} {xs:Array Value} {a b:Value} {Q:Option Value->Shared->Prop} (hh:A.handled=none) (d1:i1≠z) (d2:l1≠z)
  (ez:IsZip s.heap z za zb .none) (eI:IsPair s.heap za (.ref i1) (.ref i2)) (eO:IsPair s.heap zb a b) (h1:s.heap.IsListIter i1 l1 k) (hl1:s.heap.IsList l1 xs) (hx:xs[k]?=none)
  (hQ:∀ h',(∀ c o,c≠z->c≠i1->s.heap.get? c=some o->h'.get? c=some o)->Q none { s with heap:=h' }):wpAny (model prog w) A (pyNext (.ref z)) Q E s:=by
 have tyz:s.TypeIs (.ref z) "zip":=⟨_,ez,rfl⟩
 unfold pyNext
 refine wpAny_bind (wpAny_attempt (wpAny_callSpecial?_slot (name:=Str.ofString "__next__") tyz F.slot_zip_next (wpAny_call_entry F.slot_zip_next tyz F.entry_zip_next ?_ (F.args_zip_next_1 _))))
 (show wpAny _ _ (field (.ref z) 2 >>= _) _ _ _; refine wpAny_bind (wpAny_field ez rfl (x:=.bool false) rfl ?_))
 (show wpAny _ _ (field (.ref z) 3 >>= _) _ _ _; refine wpAny_bind (wpAny_field ez rfl (x:=.ref za) rfl (wpAny_bind (wpAny_seqItems eI rfl ?_))))
 (show wpAny _ _ (Builtin.SmallTypes.ownedTupleIsFree (.ref z) >>= _) _ _ _; refine wpAny_bind ?_; unfold Builtin.SmallTypes.ownedTupleIsFree)
 (refine wpAny_bind (wpAny_field ez rfl (x:=.none) rfl (wpAny_pure ?_)); simp only [if_true])
 refine wpAny_bind (wpAny_rule (wpAny_bind (wpAny_field ez rfl (x:=.ref zb) rfl (wpAny_bind (wpAny_setField_rec ez (by simp) fun g1 ez1 sb1=>?_)))))
 replace ez1:IsZip g1 z za zb .ellipsis:=ez1
 (refine wpAny_bind ?_; simp only [List.zipIdx_cons,List.zipIdx_nil,List.forIn_cons,List.forIn_nil])
 (refine wpAny_bind (wpAny_bind (wpAny_onRaise ?_)); show wpAny _ _ (Builtin.SmallTypes.nextOf (.ref i1) >>= _) _ _ _)
 refine wpAny_bind (wpAny_nextOf_list_end hh (h1.extBut sb1.extBut d1) (hl1.extBut sb1.extBut d2) hx fun g2 e sb2 he=>?_)
 obtain ⟨oe,hoe,hce⟩:=he
 have ez2:IsZip g2 z za zb .ellipsis:=sb2 _ _ d1.symm ez1
 have hez:e≠z:=fun x=>by
  rw [x,ez2] at hoe
  cases hoe
  simp at hce
 refine wpAny_setField_rec ez2 (by simp) fun g3 _ sb3=>?_
 refine wpAny_bind (wpAny_isInstance (T:="StopIteration") (b:=true) ⟨oe,sb3.extBut _ _ hez hoe,hce⟩ isSubtype_stop (wpAny_pure (hQ _ fun c o n1 n3 q=>?_)))
 exact sb3.extBut _ _ n1 (sb2 _ _ n3 (sb1.extBut _ _ n1 q))
abbrev zp1 (h:Heap) (a:Addr):Heap:=h.push { cls:=.type "list_iterator",data:=.fields #[.ref a,.int 0 0] }
abbrev zp2 (h:Heap) (a b:Addr):Heap:=(zp1 h a).push { cls:=.type "tuple_iterator",data:=.fields #[.ref b,.int 0 0] }
abbrev zp3 (h:Heap) (a b:Addr):Heap:=(zp2 h a b).push { cls:=.type "tuple",data:=.seq #[.ref h.objs.size,.ref (zp1 h a).objs.size] }
abbrev zp4 (h:Heap) (a b:Addr):Heap:=(zp3 h a b).push { cls:=.type "tuple",data:=.seq #[.none,.none] }
abbrev zp5 (h:Heap) (a b:Addr):Heap:=(zp4 h a b).push { cls:=.type "zip",data:=.fields #[.none,.bool false,.bool false,.ref (zp2 h a b).objs.size,.ref (zp3 h a b).objs.size] }
theorem g8Z (l1 l2:Addr) (xs ys:Array Value):Meets (Builtin.«zip.__new__» ⟨[.type "zip",.ref l1,.ref l2],[]⟩) (fun _ R s=>s.heap.IsList l1 xs/\s.heap.IsTuple l2 ys/\R (.ok (.ret (.ref (zp4 s.heap l1 l2).objs.size))) { s with heap:=zp5 s.heap l1 l2 }):=
 .of_wp fun prog w A R s h'=>by
  obtain ⟨hp,gs,dr,tk,os⟩:=s
  obtain ⟨hl1,hl2,q⟩:=h'
  have hsub:=sub_zip
  have hL1:Heap.IsList (Shared.heap ⟨hp,gs,dr,tk,os⟩) l1 xs:=hl1
  have hL2:Heap.IsTuple (Shared.heap ⟨hp.push { cls:=.type "list_iterator",data:=.fields #[.ref l1,.int 0 0] },gs,dr,tk,os⟩) l2 ys:=Heap.IsTuple.push hl2 _
  wp_walk using wpAny_pyIter_list hL1,wpAny_pyIter_tuple hL2
  exact ⟨_,rfl,q⟩
theorem w4Z {l1 l2:Addr} {xs ys:Array Value} {Q:Value->Shared->Prop} (hl1:s.heap.IsList l1 xs) (hl2:s.heap.IsTuple l2 ys)
  (h:∀ h' n,n=s.heap.objs.size->IsZip h' (n + 4) (n + 2) (n + 3) .none->IsPair h' (n + 2) (.ref n) (.ref (n + 1))->IsPair h' (n + 3) .none .none->h'.IsListIter n l1 0->h'.IsTupleIter (n + 1) l2 0 ->
   (∀ c o,s.heap.get? c=some o->h'.get? c=some o)->Q (.ref (n + 4)) { s with heap:=h' }):wpAny (model prog w) A (call (.type "zip") [.ref l1,.ref l2]) Q E s:=by
 refine callType_new F.called_zip (by decide) (F.typeCall_zip_2 _ _) (F.newCall_zip_2 _ _) (fun obj=>F.args_object_init_3 obj _ _) F.entry_zip_new (g8Z l1 l2 xs ys) ⟨hl1,hl2,?_⟩
 generalize hn:s.heap.objs.size=n at h
 have e1:(zp1 s.heap l1).objs.size=n + 1:=by rw [Heap.size_push,hn]
 have e2:(zp2 s.heap l1 l2).objs.size=n + 2:=by rw [Heap.size_push,e1]
 have e3:(zp3 s.heap l1 l2).objs.size=n + 3:=by rw [Heap.size_push,e2]
 have e4:(zp4 s.heap l1 l2).objs.size=n + 4:=by rw [Heap.size_push,e3]
 have k1:∀ c o,(zp1 s.heap l1).get? c=some o->(zp5 s.heap l1 l2).get? c=some o:=fun c o x=>Heap.get?_push_of_some _ (Heap.get?_push_of_some _ (Heap.get?_push_of_some _ (Heap.get?_push_of_some _ x)))
 have k2:∀ c o,(zp2 s.heap l1 l2).get? c=some o->(zp5 s.heap l1 l2).get? c=some o:=fun c o x=>Heap.get?_push_of_some _ (Heap.get?_push_of_some _ (Heap.get?_push_of_some _ x))
 have g5:(zp5 s.heap l1 l2).get? (zp4 s.heap l1 l2).objs.size=some { cls:=.type "zip",data:=.fields #[.none,.bool false,.bool false,.ref (zp2 s.heap l1 l2).objs.size,.ref (zp3 s.heap l1 l2).objs.size] }:=Heap.get?_push_size _ rfl
 have g4:IsPair (zp5 s.heap l1 l2) (zp3 s.heap l1 l2).objs.size .none .none:=Heap.get?_push_of_some _ (Heap.get?_push_size _ rfl)
 have g3:IsPair (zp5 s.heap l1 l2) (zp2 s.heap l1 l2).objs.size (.ref s.heap.objs.size) (.ref (zp1 s.heap l1).objs.size):=Heap.get?_push_of_some _ (Heap.get?_push_of_some _ (Heap.get?_push_size _ rfl))
 have g2:(zp5 s.heap l1 l2).IsTupleIter (zp1 s.heap l1).objs.size l2 0:=⟨_,k2 _ _ (Heap.get?_push_size _ rfl),rfl,rfl⟩
 have g1:(zp5 s.heap l1 l2).IsListIter s.heap.objs.size l1 0:=⟨_,k1 _ _ (Heap.get?_push_size _ rfl),rfl,rfl⟩
 rw [e2,e3,e4] at g5
 rw [e1,e2,hn] at g3
 rw [e3] at g4
 rw [e1] at g2
 rw [hn] at g1
 show _/\_
 rw [e4]
 exact ⟨⟨_,g5,rfl⟩,h _ n rfl g5 g3 g4 g1 g2 fun c o x=>k1 c o (Heap.get?_push_of_some _ x)⟩
end
theorem Inv.turnedL {X:Cx} {pins:List (Addr × Obj)} {σ:St} {H:Hp} {s:Shared} {h':Heap} {t':Nat} {fp:List Addr} (I:Inv X pins σ H s) (k:∀ b o,b∉fp->s.heap.get? b=some o->h'.get? b=some o) (hf:∀ b∈fp,pO X pins H b):Inv X pins σ H { s with heap:=h',toks:=t' }:=by
 have nit:∀ b u,H b=some u->b∉fp:=fun b u e z=>by rw [(hf b z).1] at e; cases e
 refine I.step (g':=s.gens) (d':=s.drawn) (ch:=fp) (fun b hb=>⟨(hf b hb).2.2.2.1,(hf b hb).2.1,(hf b hb).2.2.2.2.1,(hf b hb).2.2.2.2.2⟩) (fun b o _ _ hc e _=>k b o hc e) (fun b o _ _ hc e _=>⟨o.slots,k b o hc e⟩) (fun _ _ _ _ n=>n)
  (fun b o hc e=>⟨o,k b o hc e⟩) (fun _ _ e=>e) (fun _ _ _ e=>e) (fun b ps e=>⟨#[],by rw [e]; simp⟩) (fun m ⟨o,es,ep,ho,r⟩=>⟨o,es,ep,k _ o (fun z=>(hf _ z).2.1 rfl) ho,r⟩) (fun b u e=>?_) I.bare
 refine (I.hok b u e).stay (fun c v hc q=>k c v ?_ q) (fun _ q=>q) fun _ _ q=>q
 rcases hc with z | z
 ·rw [z]; exact nit b u e
 ·exact nit c _ z
def Itz (K:W.Frag) (a b:Addr):It:=
 ⟨fun i H=>∃ xs ys x y,SqL K H a xs/\SqT K H b ys/\xs[i]?=some x/\ys[i]?=some y,fun i H v H'=>∃ T x y,v = .ref T/\H T=none/\H'=upd H T (.tup [x,y])/\(∀ xs,SqL K H a xs->xs[i]?=some x)/\∀ ys,SqT K H b ys->ys[i]?=some y,
  fun i H=>∃ xs,SqL K H a xs/\xs.length<=i⟩
structure ZSt (z TI TO i1 i2 a b:Addr) (i:Nat) (h:Heap):Prop where
 z:IsZip h z TI TO .none
 ti:IsPair h TI (.ref i1) (.ref i2)
 tx:∃ u v,IsPair h TO u v
 ia:h.IsListIter i1 a i
 ib:h.IsTupleIter i2 b i
theorem x4Z {P:Program} {w:World} {K:W.Frag} {es:List Expr} {kt:Nat} {tp:Pos} {z TI TO i1 i2 a b:Addr} (D:ZipApart z TI TO i1 i2 a b):Turn P w K (.Tuple es kt tp) (Itz K a b) [z,TI,TO,i1,i2] z (ZSt z TI TO i1 i2 a b) where
 mem:=by simp
 obj:=fun i h st c hc=>by
  obtain ⟨h1,h2,⟨u,v,h3⟩,⟨o4,h4,_,d4⟩,⟨o5,h5,_,d5⟩⟩:=st
  simp only [List.mem_cons,List.not_mem_nil,or_false] at hc
  rcases hc with rfl | rfl | rfl | rfl | rfl
  ·exact ⟨_,h1,fun v z=>by cases z⟩
  ·exact ⟨_,h2,fun v z=>by cases z⟩
  ·exact ⟨_,h3,fun v z=>by cases z⟩
  ·exact ⟨_,h4,fun v z=>by rw [d4] at z; cases z⟩
  ·exact ⟨_,h5,fun v z=>by rw [d5] at z; cases z⟩
 keep:=fun i h h' st k=>by
  obtain ⟨h1,h2,⟨u,v,h3⟩,⟨o4,h4,r4⟩,⟨o5,h5,r5⟩⟩:=st
  exact ⟨k _ (by simp) _ h1,k _ (by simp) _ h2,⟨u,v,k _ (by simp) _ h3⟩,⟨o4,k _ (by simp) _ h4,r4⟩,⟨o5,k _ (by simp) _ h5,r5⟩⟩
 item:=by
  intro X hP hw hK hc i pins s σ H E I hf st hg
  subst hP hw hK
  obtain ⟨xs,ys,x,y,hx,hy,ex,ey⟩:=hg
  obtain ⟨h1,h2,⟨u0,v0,h3⟩,h4,h5⟩:=st
  obtain ⟨its,rv,p,_⟩:=I.list hx
  obtain ⟨its2,rv2,p2,_⟩:=I.tuple hy
  obtain ⟨u,hu,ru⟩:=rv.get ex
  obtain ⟨v,hv,rw2⟩:=rv2.get ey
  refine v4Z D h1 h2 h3 h4 h5 p.isList (show s.heap.IsTuple b its2.toArray from p2) (x:=u) (y:=v) (by simpa using hu) (by simpa using hv) fun h' a1 a2 a3 a4 a5 hk=>?_
  refine ⟨_,rfl,wpAny_letOwnedTupleGo_zip a1 fun h2' b1 hs=>?_⟩
  have nz:s.heap.objs.size≠z:=Nat.ne_of_gt (Heap.lt_size h1)
  have hT:H s.heap.objs.size=none:=I.hok.fresh (Nat.le_refl _)
  have I1:Inv X pins σ (upd H s.heap.objs.size (.tup [x,y])) { s with heap:=s.heap.push { cls:=.type "tuple",data:=.seq #[u,v] } }:=
   I.laid (t':=s.toks) (fun c o e=>Heap.get?_push_of_some _ e) (Nat.le_refl _) (show tZ X.prog X.w _ _ _ (.tup [x,y]) from ⟨(by show 2<=sizeLine; decide),[u,v],.cons ru (.cons rw2 .nil),_,Heap.get?_push_size _ rfl,rfl,_,rfl⟩)
  have lt:∀ c∈[z,TI,TO,i1,i2],c < s.heap.objs.size:=fun c hc=>by
   obtain ⟨o4,e4,_⟩:=h4
   obtain ⟨o5,e5,_⟩:=h5
   simp only [List.mem_cons,List.not_mem_nil,or_false] at hc
   rcases hc with rfl | rfl | rfl | rfl | rfl
   ·exact Heap.lt_size h1
   ·exact Heap.lt_size h2
   ·exact Heap.lt_size h3
   ·exact Heap.lt_size e4
   ·exact Heap.lt_size e5
  have hf1:∀ c∈[z,TI,TO,i1,i2],pO X pins (upd H s.heap.objs.size (.tup [x,y])) c:=fun c hc=>⟨by rw [kQ (Nat.ne_of_lt (lt c hc))]; exact (hf c hc).1,(hf c hc).2⟩
  have kk:∀ c o,c∉[z,TI,TO,i1,i2]->(s.heap.push { cls:=.type "tuple",data:=.seq #[u,v] }).get? c=some o->h2'.get? c=some o:=fun c o nc e=>by
   simp only [List.mem_cons,List.not_mem_nil,or_false,not_or] at nc
   obtain ⟨n1,n2,n3,n4,n5⟩:=nc
   rcases Heap.get?_push_cases e with ⟨rfl,rfl⟩ | e'
   ·exact hs.extBut _ _ n1 a5
   ·exact hs.extBut _ _ n1 (hk c o n1 n3 n4 n5 e')
  have I2:=I1.turnedL (t':=s.toks) (h':=h2') kk hf1
  exact ⟨.ref s.heap.objs.size,_,I2,rfl,⟨_,x,y,rfl,hT,rfl,fun zs hz=>by rw [I.list_inj hz hx]; exact ex,fun zs hz=>by rw [I.tuple_inj hz hy]; exact ey⟩,⟨b1,hs.extBut _ _ D.TIz (hk _ _ D.TIz D.TITO D.TIi1 D.TIi2 h2),⟨u,v,hs.extBut _ _ D.TOz a2⟩,a3.extBut hs.extBut D.i1z,a4.extBut hs.extBut D.i2z⟩,fun c hc=>(hf1 c hc).1⟩
 done:=by
  intro X hP hw hK hc i pins s σ H E I hf st hg
  subst hP hw hK
  obtain ⟨xs,hq,hx⟩:=hg
  obtain ⟨h1,h2,⟨u0,v0,h3⟩,h4,h5⟩:=st
  obtain ⟨its,rv,p,hz⟩:=I.list hq
  have hl:=rv.length
  refine f8Z (I.ok.hd hc) D.i1z D.l1z h1 h2 h3 h4 p.isList (by simp; omega) fun h' hk=>⟨rfl,I.turnedL (t':=s.toks) (fp:=[z,TI,TO,i1,i2]) (fun c o nc e=>?_) hf⟩
  simp only [List.mem_cons,List.not_mem_nil,or_false,not_or] at nc
  exact hk c o nc.1 nc.2.2.2.1 e
 self:=fun _ _ _ _ _ st h=>wpAny_pyIter_zip st.z h
def iZip (K:W.Frag) (ta:TA):TI:=fun σ H R=>ta σ H fun vs H1=>∃ a b,vs=[.ref a,.ref b]/\(∃ xs,SqL K H1 a xs)/\(∃ ys,SqT K H1 b ys)/\R (Itz K a b) H1
theorem d1X:bootBuiltins "zip"=some (.type "zip"):=by decide +kernel
theorem e1X {X:Cx} {es:List Expr} {kt:Nat} {tp:Pos} {a b:Expr} {ta:TA} {p pos:Pos} (hg:Gl X "zip") (hm:X.mg "zip"=none) (ha:PA X [a,b] ta) (hs:starEach [a,b] X.env=[(false,eval a X.env),(false,eval b X.env)]:=by rfl) (hs2:starEach [b] X.env=[(false,eval b X.env)]:=by rfl) :
  PI X (.Tuple es kt tp) (.Call (.Name "zip" p) [a,b] [] pos) (iZip X.K ta):=by
 intro pins s σ H R I h
 refine Call_ (wV I hg hm d1X (PyProof.Rows.callWith_type1 (thn (ha pos pins s σ H _ I h) fun us s1 hh=>?_) (by rw [hs,hs2]) (by rw [hs2]; rfl)))
 obtain ⟨vs,H1,I1,r1,q1⟩:=hh
 obtain ⟨x,y,e,⟨xs,hx⟩,⟨ys,hy⟩,q⟩:=q1
 subst e
 obtain ⟨u,v,rfl,ru,rv⟩:=p2Q r1
 cases ru
 cases rv
 obtain ⟨its,rv1,p1,_⟩:=I1.list hx
 obtain ⟨its2,rv2,p2,_⟩:=I1.tuple hy
 refine w4Z p1.isList (show s1.heap.IsTuple y its2.toArray from p2) fun h' n hn g1 g2 g3 g4 g5 hk=>?_
 refine wpAny_pyIter_zip g1 ?_
 have l1:x < n:=by obtain ⟨o,_,e,_⟩:=p1; rw [hn]; exact Heap.lt_size e
 have l2:y < n:=by obtain ⟨o,e,_⟩:=p2; rw [hn]; exact Heap.lt_size e
 refine ⟨n + 4,[n + 4,n + 2,n + 3,n,n + 1],_,_,H1,rfl,I1.kept (t':=s1.toks) hk,x4Z (PyProof.Rows.zipApart_new l1 l2),⟨g1,g2,⟨_,_,g3⟩,g4,g5⟩,fun c hc=>?_,q⟩
 have hle:s1.heap.objs.size<=c:=by
  simp only [List.mem_cons,List.not_mem_nil,or_false] at hc
  rw [<-hn]
  rcases hc with e | e | e | e | e <;> rw [e]
  ·exact Nat.le_add_right n 4
  ·exact Nat.le_add_right n 2
  ·exact Nat.le_add_right n 3
  ·exact Nat.le_refl n
  ·exact Nat.le_add_right n 1
 exact I1.fpOk hle (I1.hok.fresh hle)
section
variable {K:W.Frag} {a b D:Addr} {xs ys:List V} {g:TG} {tt:TT} {te:TE} {σ0:St} {H0:Hp} {Q:VK}
theorem f1X (hxy:xs.length=ys.length) (Pv:Nat->List V->St->Hp->Prop) (h0:Pv 0 [] σ0 H0) (hl:∀ i us σ H,i<=xs.length->Pv i us σ H->SqL K H a xs/\SqT K H b ys)
  (hs:∀ i x y us σ H T,xs[i]?=some x->ys[i]?=some y->Pv i us σ H->H T=none->g (.ref T) σ (upd H T (.tup [x,y])) fun σ3 H3=>tt σ3 H3 fun b H4=>if b=true then te σ3 H4 fun y H5=>H5 D=some (.lst us)/\us.length < sizeLine/\Pv (i + 1) (us++[y]) σ3 (upd H5 D (.lst (us++[y]))) else Pv (i + 1) us σ3 H4)
  (hd:∀ us σ H,Pv xs.length us σ H->Q (.ref D) H) :
  LcW (Itz K a b) D g tt te Q σ0 H0:=by
 refine ⟨fun i m us σ H=>m=xs.length - i/\i<=xs.length/\Pv i us σ H,⟨xs.length,by simp,Nat.zero_le _,h0⟩,?_⟩
 rintro i m us σ H ⟨rfl,hi,p⟩
 obtain ⟨q1,q2⟩:=hl i us σ H hi p
 by_cases hlt:i < xs.length
 ·have hlt2:i < ys.length:=by omega
  refine .inr ⟨⟨xs,ys,xs[i],ys[i],q1,q2,by simp [hlt],by simp [hlt2]⟩,fun us' σ' H'=>Pv (i + 1) us' σ' H',fun us' σ' H' p'=>⟨xs.length - (i + 1),by omega,rfl,hlt,p'⟩,fun v H' y=>?_⟩
  obtain ⟨T,x,y,rfl,hT,rfl,y1,y2⟩:=y
  exact hs i x y us σ _ T (y1 xs q1) (y2 ys q2) p hT
 ·have e:i=xs.length:=by omega
  subst e
  exact .inl ⟨⟨xs,q1,Nat.le_refl _⟩,hd us σ H p⟩
end
section
variable {prog:Program} {w:World} {A:Around} {E:Value->Shared->Prop} {s:Shared} {KT:Type} [DecidableEq KT] {knd:KeyKind prog w KT}
theorem lO:entryFor table "dict.update.loop"=some Builtin.«dict.update.loop»:=entryFor_of_tree (by kernel_rfl)
theorem bV:plainId "dict.update.loop"=true:=by decide +kernel
theorem c3Q:typeLookup (.type "list") "keys"=pure none:=by rw [typeLookup_type,builtinLookup_eq_fast]; kernel_rfl
theorem h8Z {l:Addr} {its:Array Value} {nl:Nat} {sl:Array (Option Value)} {Q:Option Value->Shared->Prop} (hA:A.handled=none) (hl:s.heap.get? l=some { cls:=.type "list",dict:=none,data:=.seq its nl,slots:=sl })
  (q:∀ h' tk,(∀ b o,s.heap.get? b=some o->h'.get? b=some o)->Q none { s with heap:=h',toks:=tk }):wpAny (model prog w) A (getAttr? (.ref l) "keys") Q E s:=by
 obtain ⟨hp,gs,dr,tk,os⟩:=s
 have hT:∀ tk',(⟨hp,gs,dr,tk',os⟩:Shared).TypeIs (.ref l) "list":=fun _=>⟨_,hl,rfl⟩
 have f1:=sub_AttributeError; have f3:=F.slot_list_getattribute.lookup
 have f4:=F.slot_list_getattribute.bind (.ref l); have f5:=am_list_getattr_none
 (unfold getAttr? getAttrBy? getAttrBy)
 repeat (any_goals (first | assumption | exact hT _ | ((with_reducible show wpAny _ _ (call (Value.builtin "list.__getattribute__") _ _) _ _ _); refine call_meets F.slot_list_getattribute (hT _) am_entry_list_getattribute (F.args_list_getattribute_2 _ _) (meets_getattribute_miss_list l its nl sl "keys" _ c3Q (by decide +kernel)) ⟨hl,hA,fun h' tk' e hx'=>?_⟩) | wp_step))
 obtain ⟨tv,uv,hev⟩:=hx'.there
 (show wpAny _ _ (getattributeRaised _ _ _ _ _ _ _) _ _ _; unfold getattributeRaised)
 repeat (any_goals (first | wp_step | assumption))
 exact q _ _ hx'.keeps
def h0Q (knd:KeyKind prog w KT) (h:Heap) (its:Array Value) (kvs:List (KT × Value)):Prop:=
 its.size=kvs.length/\∀ (i:Nat) (v:Value),its[i]?=some v->∃ (p:Addr) (key val:Value) (k:KT),v = .ref p/\h.IsTuple p #[key,val]/\kvs[i]?=some (k,val)/\knd.is k key=true
theorem h0Q.kept {h h':Heap} {its:Array Value} {kvs:List (KT × Value)} (x:h0Q knd h its kvs) (k:∀ (i:Nat) (p:Addr),its[i]?=some (.ref p)->∀ o,h.get? p=some o->h'.get? p=some o):h0Q knd h' its kvs:=
 ⟨x.1,fun i v e=>by
  obtain ⟨p,key,val,kk,rfl,⟨o,ho,r⟩,e2,e3⟩:=x.2 i v e
  exact ⟨p,key,val,kk,rfl,⟨o,k i p e o ho,r⟩,e2,e3⟩⟩
theorem l9Q {kvs:List (KT × Value)} {k:KT} {v:Value} (h:k∉kvs.map (·.1)):stored kvs k v=kvs++[(k,v)]:=by
 unfold stored
 rw [if_neg]
 rw [List.any_eq_true]
 rintro ⟨x,hx,e⟩
 exact h (List.mem_map.mpr ⟨x,hx,of_decide_eq_true e⟩)
theorem y4Z {R:Result->Shared->Prop} {d I l:Addr} {its:Array Value} {kvs:List (KT × Value)} (hh:A.handled=none) (n1:I≠l) (n2:d≠I) (n3:d≠l) (hn:(kvs.map (·.1)).Nodup) (hz:kvs.length<=sizeLine) :
  ∀ (m i:Nat) (s:Shared),kvs.length - i=m->i<=kvs.length->s.heap.IsListIter I l i->s.heap.IsList l its->h0Q knd s.heap its kvs->(∀ (i:Nat) (p:Addr),its[i]?=some (.ref p)->p≠d/\p≠I)->s.heap.DictOf knd d (kvs.take i) ->
   (∀ h' tk,h'.DictOf knd d kvs->(∀ b o,b≠d->b≠I->s.heap.get? b=some o->h'.get? b=some o)->R (.ok (.ret .none)) { s with heap:=h',toks:=tk }) ->
   codeAny (model prog w) A (.builtin "dict.update.loop" ⟨[.ref d,.ref I,rawInt i,.none],[]⟩) R s:=by
 intro m
 induction m with
 | zero =>
  intro i s hm hi st hl hp hnp hd q
  have ei:i=kvs.length:=by omega
  refine codeAny_builtin lO ?_
  rw [Around.under_plainId bV _]
  (show wpAny _ A.in1 (pyNext (.ref I) >>= _) _ _ s)
  refine wpAny_bind (wpAny_pyNext_list_end hh st hl (by rw [ei,<-hp.1]; simp) fun h' eb=>?_)
  show wpAny _ A.in1 (Builtin.Dict.addKeywords d [] >>= _) _ _ _
  refine wpAny_bind (wpAny_pure (wpAny_pure (q h' s.toks ?_ fun b o _ b2 e=>eb b o b2 e)))
  rw [ei,List.take_length] at hd
  exact hd.extBut eb n2
 | succ m ih =>
  intro i s hm hi st hl hp hnp hd q
  have hlt:i < kvs.length:=(by omega)
  have hlt2:i < its.size:=by rw [hp.1]; exact hlt
  obtain ⟨p,key,val,k,ev,ht,ek,kis⟩:=hp.2 i its[i] (Array.getElem?_eq_getElem hlt2)
  have egp:its[i]?=some (.ref p):=by rw [Array.getElem?_eq_getElem hlt2,ev]
  obtain ⟨np1,np2⟩:=hnp i p egp
  refine codeAny_builtin lO ?_
  rw [Around.under_plainId bV _]
  (show wpAny _ A.in1 (pyNext (.ref I) >>= _) _ _ s)
  refine wpAny_bind (wpAny_pyNext_list_item st hl egp fun h1 st1 sb=>?_)
  have ht1:h1.IsTuple p #[key,val]:=ht.extBut sb.extBut np2
  have hd1:h1.DictOf knd d (kvs.take i):=hd.extBut sb.extBut n2
  obtain ⟨o,ho,hc,nn,hdat⟩:=id ht1
  show wpAny _ A.in1 (holding [Value.ref p] _ >>= _) _ _ _
  refine wpAny_bind (wpAny_holding (wpAny_bind (wpAny_tryCatch ?_)))
  unfold Builtin.Dict.pairItems
  refine wpAny_bind (wpAny_typeOf (s:={ s with heap:=h1 }) (Heap.IsTuple.typeIs (s:={ s with heap:=h1 }) ht1) ?_)
  rw [if_pos (by decide)]
  refine wpAny_bind (wpAny_seqItems (s:={ s with heap:=h1 }) ho hdat (wpAny_pure ?_))
  show wpAny _ A.in1 (holding [key,val] (dictSet d key val)) _ _ _
  have hnew:k∉(kvs.take i).map (·.1):=fun hk=>by
   rw [List.nodup_iff_pairwise_ne,List.pairwise_map,List.pairwise_iff_getElem] at hn
   obtain ⟨⟨k',v'⟩,hm',e'⟩:=List.mem_map.mp hk
   obtain ⟨j,hj,ej⟩:=List.getElem_of_mem hm'
   have hj2:j < i:=by rw [List.length_take] at hj; omega
   have:=hn j i (by omega) hlt hj2
   apply this
   rw [List.getElem_take] at ej
   rw [ej]
   have e3:kvs[i]=(k,val):=Option.some.inj ((List.getElem?_eq_getElem hlt).symm.trans ek)
   rw [e3]
   exact e'
  refine wpAny_holding (wpAny_dictSet_pairs (s:={ s with heap:=h1 }) kis hd1 (fun h2 hd2 sb2=>?_) (by rw [List.length_take]; omega))
  rw [l9Q hnew] at hd2
  have et:kvs.take i++[(k,val)]=kvs.take (i + 1):=by
   rw [List.take_add_one,ek]
   rfl
  rw [et] at hd2
  have up:∀ b o,b≠d->b≠I->s.heap.get? b=some o->h2.get? b=some o:=fun b o b1 b2 e=>sb2.extBut b o b1 (sb.extBut b o b2 e)
  show wpAny _ A.in1 (again _) _ _ _
  refine wpAny_pure ⟨plainId_quiet bV _,?_⟩
  have ih':=ih (i + 1) { s with heap:=h2,toks:=s.toks + 1 } (by omega) hlt (st1.extBut sb2.extBut n2.symm) ((hl.extBut sb.extBut n1.symm).extBut sb2.extBut n3.symm)
   (hp.kept fun j p' e o' e'=>up p' o' (hnp j p' e).1 (hnp j p' e).2 e') hnp hd2 (fun h' tk hd' kk=>q h' tk hd' fun b o b1 b2 e=>kk b o b1 b2 (up b o b1 b2 e))
  have er:rawInt ((i:Int) + 1)=rawInt (((i + 1:Nat):Nat):Int):=by push_cast; rfl
  rw [er]
  exact ih'
theorem m9Q {l:Addr} {its:Array Value} {nl:Nat} {kvs:List (KT × Value)} {sl:Array (Option Value)} {Q:Value->Shared->Prop} (hh:A.handled=none) (hl:s.heap.get? l=some { cls:=.type "list",dict:=none,data:=.seq its nl,slots:=sl }) (hp:h0Q knd s.heap its kvs)
  (hn:(kvs.map (·.1)).Nodup) (hz:kvs.length<=sizeLine)
  (h:∀ h' tk,h'.DictOf knd s.heap.objs.size kvs->(∀ b o,s.heap.get? b=some o->h'.get? b=some o)->Q (.ref s.heap.objs.size) { s with heap:=h',toks:=tk }) :
  wpAny (model prog w) A (call (.type "dict") [.ref l]) Q E s:=by
 refine callType_codes (Q₁:=fun ob s₁=>ob = .ref s.heap.objs.size/\s₁={ s with heap:=s.heap.push { cls:=.type "dict",data:=.dict #[] } }) F.kt_called_dict (F.kt_typeCall_dict_1 _) F.entry_dict_init (kt_code_dict_new _ ⟨rfl,rfl⟩) ?_
 rintro ob s₁ ⟨rfl,rfl⟩
 have hnw:(s.heap.push { cls:=.type "dict",data:=.dict #[] }).DictOf knd s.heap.objs.size []:=Heap.DictOf.new s.heap
 have hl1:(s.heap.push { cls:=.type "dict",data:=.dict #[] }).get? l=some { cls:=.type "list",dict:=none,data:=.seq its nl,slots:=sl }:=Heap.get?_push_of_some _ hl
 have ltl:l < s.heap.objs.size:=Heap.lt_size hl
 refine And.intro hnw.typeIs (And.intro (F.args_dict_init_2 _ _) ?_)
 (unfold Builtin.«dict.__init__»)
 refine wpAny_bind ?_
 (unfold Builtin.Dict.selfAndRest; refine wpAny_bind (wpAny_notOrdered_dict hnw.typeIs ?_))
 (show wpAny _ _ (pure (s.heap.objs.size,[Value.ref l])) _ _ _; refine wpAny_pure ?_)
 (show wpAny _ _ (Builtin.Dict.updateFrom "dict.__init__" s.heap.objs.size (.ref l) [] .none) _ _ _; unfold Builtin.Dict.updateFrom)
 refine wpAny_bind (wpAny_typeOf (T:="list") ⟨_,hl1,rfl⟩ ?_)
 rw [if_pos (by decide)]
 refine wpAny_bind (h8Z (by simp [hh]) hl1 fun h2 tk2 k2=>?_)
 rw [if_pos (by decide)]
 have hl2:h2.IsList l its:=⟨_,k2 _ _ hl1,rfl,nl,rfl⟩
 refine wpAny_bind (wpAny_rule (wpAny_bind (wpAny_pyIter_list (s:={ s with heap:=h2,toks:=tk2 }) hl2 ?_)))
 have hlt:s.heap.objs.size < h2.objs.size:=by
  obtain ⟨o,es,ep,ho,_⟩:=hnw
  exact Heap.lt_size (k2 _ _ ho)
 have upk:∀ b o,s.heap.get? b=some o->(h2.push { cls:=.type "list_iterator",data:=.fields #[.ref l,.int 0 0] }).get? b=some o:=fun b o e=>Heap.get?_push_of_some _ (k2 b o (Heap.get?_push_of_some _ e))
 refine wpAny_pure ⟨plainId_quiet bV _,?_⟩
 refine y4Z (knd:=knd) (d:=s.heap.objs.size) (I:=h2.objs.size) (l:=l) (its:=its) (kvs:=kvs) (by simp [hh]) (Nat.ne_of_gt (Nat.lt_trans ltl hlt)) (Nat.ne_of_lt hlt) (Nat.ne_of_gt ltl) hn hz kvs.length 0 _ (by omega) (Nat.zero_le _)
  ⟨_,Heap.get?_push_size _ rfl,rfl,rfl⟩ ⟨_,upk _ _ hl,rfl,nl,rfl⟩ (hp.kept fun i p e o e'=>upk p o e') (fun i p e=>?_) ?_ fun h' tk hd' kk=>?_
 ·obtain ⟨p',key,val,k',e',⟨o,ho,_⟩,_⟩:=hp.2 i _ e
  cases e'
  have:=Heap.lt_size ho
  exact ⟨Nat.ne_of_lt this,Nat.ne_of_lt (Nat.lt_trans this hlt)⟩
 ·obtain ⟨o,es,ep,ho,r⟩:=hnw
  exact ⟨o,es,ep,Heap.get?_push_of_some _ (k2 _ _ ho),r⟩
 ·refine ⟨rfl,h h' tk hd' fun b o e=>kk b o (Nat.ne_of_lt (Heap.lt_size e)) (Nat.ne_of_lt (Nat.lt_trans (Heap.lt_size e) hlt)) (upk b o e)⟩
end
theorem y1Q {X:Cx} (hc:X.calm=true):yV X (.type "dict") (fun xs H Q=>∃ (a:Addr) (ps:List Addr) (kvs:List (Key × V)),xs=[.ref a]/\H a=some (.lst (ps.map V.ref))/\ps.length=kvs.length /\
  (∀ (i:Nat) (p:Addr) (kv:Key × V),ps[i]?=some p->kvs[i]?=some kv->H p=some (.tup [kV kv.1,kv.2]))/\(kvs.map (·.1)).Nodup/\∀ p,H p=none->Q (.ref p) (upd H p (.dK kvs))):=by
 intro pins s σ H xs us Q I r h
 obtain ⟨a,ps,kvs,rfl,ha,hl,hall,hn,q⟩:=h
 obtain ⟨u,rfl,ru⟩:=c0Q r
 cases ru
 obtain ⟨hz,its,n,rv,e⟩:=(show tZ X.prog X.w H s.heap a (.lst (ps.map V.ref)) from I.hok a _ ha)
 have hz':kvs.length<=sizeLine:=by rw [List.length_map] at hz; omega
 have one:∀ (i:Nat) (p:Addr) (kv:Key × V),ps[i]?=some p->kvs[i]?=some kv->∃ key val:Value,s.heap.IsTuple p #[key,val]/\(fZ X.prog X.w).is kv.1 key=true/\qZ kv.2 val:=fun i p kv e1 e2=>by
  obtain ⟨_,us,ru,o,ho,hc',m,hd⟩:=(show tZ X.prog X.w H s.heap p (.tup [kV kv.1,kv.2]) from I.hok p _ (hall i p kv e1 e2))
  obtain ⟨u1,u2,rfl,r1,r2⟩:=p2Q ru
  exact ⟨u1,u2,⟨o,ho,hc',m,hd⟩,p1Q r1,r2⟩
 have make:∀ (ps:List Addr) (kvs:List (Key × V)),ps.length=kvs.length->(∀ (i:Nat) (p:Addr) (kv:Key × V),ps[i]?=some p->kvs[i]?=some kv->∃ key val:Value,s.heap.IsTuple p #[key,val]/\(fZ X.prog X.w).is kv.1 key=true/\qZ kv.2 val) ->
   ∃ ws:List (Key × Value),KV kvs ws/\∀ (i:Nat) (p:Addr),ps[i]?=some p->∃ (key val:Value) (k:Key),s.heap.IsTuple p #[key,val]/\ws[i]?=some (k,val)/\(fZ X.prog X.w).is k key=true:=by
  intro ps
  induction ps with
  | nil =>
   intro kvs hl _
   cases kvs with
   | nil=>exact ⟨[],.nil,fun i p e=>by simp at e⟩
   | cons x t=>cases hl
  | cons p t ih =>
   intro kvs hl hh
   cases kvs with
   | nil=>cases hl
   | cons kv kt =>
    obtain ⟨ws,hws,hw⟩:=ih kt (by simpa using hl) fun i p kv e1 e2=>hh (i + 1) p kv (by simpa using e1) (by simpa using e2)
    obtain ⟨key,val,h1,h2,h3⟩:=hh 0 p kv rfl rfl
    refine ⟨(kv.1,val) :: ws,.cons ⟨rfl,h3⟩ hws,fun i p' e=>?_⟩
    cases i with
    | zero =>
     cases e
     exact ⟨key,val,kv.1,h1,rfl,h2⟩
    | succ i =>
     obtain ⟨key',val',k',g1,g2,g3⟩:=hw i p' (by simpa using e)
     exact ⟨key',val',k',g1,by simpa using g2,g3⟩
 obtain ⟨ws,hws,hw⟩:=make ps kvs hl one
 have hlen:=rv.length
 have hkey:ws.map (·.1)=kvs.map (·.1):=(KV.keys hws).symm
 refine m9Q (knd:=fZ X.prog X.w) (I.ok.hd hc) e (kvs:=ws) ⟨?_,fun i v ev=>?_⟩ (by rw [hkey]; exact hn) (by rw [<-hws.length]; exact hz') fun h' tk dd kk=>?_
 ·rw [List.size_toArray,<-hlen,List.length_map,hl]
  exact hws.length
 ·have ev':its[i]?=some v:=by simpa using ev
  have hi:i < (ps.map V.ref).length:=by rw [hlen]; exact (List.getElem?_eq_some_iff.mp ev').1
  obtain ⟨u,eu,ru⟩:=rv.get (i:=i) (x:=(ps.map V.ref)[i]) (List.getElem?_eq_getElem hi)
  rw [ev'] at eu
  obtain rfl:v=u:=Option.some.inj eu
  have hi':i < ps.length:=by rw [List.length_map] at hi; exact hi
  rw [List.getElem_map] at ru
  obtain rfl:v=Value.ref ps[i]:=ru
  obtain ⟨key,val,k,g1,g2,g3⟩:=hw i ps[i] (List.getElem?_eq_getElem hi')
  exact ⟨_,key,val,k,rfl,g1,g2,g3⟩
 ·refine ⟨.ref s.heap.objs.size,upd H s.heap.objs.size (.dK kvs),I.laid (t':=tk) kk (Nat.le_refl _) (z5Q hz' (beq_eq_false_iff_ne.mpr (Ne.symm (Nat.ne_of_lt I.big))) hws dd),rfl,q _ (I.hok.fresh (Nat.le_refl _))⟩
theorem pgt {X:Cx} (K:W.Frag) {es:List Expr} {k:Nat} {pos:Pos} {t:TGs} (n:Nat) (hc:X.calm=true) (h:PGs X es t) (hK:X.K=K:=by rfl)
  (hn:(assignEach es X.env).length=n:=by rfl) (hst:(assignEach es X.env).findIdx? (·.1)=none:=by rfl):PG X (.Tuple es k pos) (gTup K n t):=by
 subst hK
 exact jK hc h hn hst
end L2
namespace L2
open PySem PySem.Spec PyProof.Rows
def Its (lo c:Int) (n:Nat):It:=⟨fun i _=>i < n,fun i H x H'=>H'=H/\x = .int (lo + (i:Nat) * c),fun i _=>n<=i⟩
theorem n9Q {P:Program} {w:World} {K:W.Frag} {tg:Expr} (it:Addr) (lo c:Int) (n:Nat):Turn P w K tg (Its lo c n) [it] it (fun i h=>IsRangeIter h it (lo + (i:Nat) * c) ((n:Int) - (i:Nat)) c) where
 mem:=by simp
 obj:=fun i h st b hb=>by
  have e:b=it:=by simpa using hb
  subst e
  exact ⟨_,st,fun v z=>by
   have z':Data.fields _=Data.cell v:=z
   cases z'⟩
 keep:=fun i h h' st k=>k it (by simp) _ st
 item:=by
  intro X hP hw hK hc i pins s σ H E I hf st hg
  subst hP hw hK
  obtain ⟨f0,f1,f2,f3,f4,f5⟩:=hf it (by simp)
  refine (Walks.range (prog:=X.prog) (w:=X.w) (I.ok.hd hc) it lo c n).item i s _ _ hg st fun v h' tk hv st' kk=>?_
  obtain ⟨t,rfl⟩:=hv
  have I1:Inv X pins σ H { s with heap:=h',toks:=tk }:=I.turned (fun b o hb e=>kk b o (by simpa using hb) e) f0 f1 f3 f4 f5
  exact ⟨_,rfl,m2Q (s:={ s with heap:=h',toks:=tk }) (n:="range_iterator") st' rfl rfl (by decide) ⟨.int (lo + (i:Nat) * c),H,I1,⟨t,rfl⟩,⟨rfl,rfl⟩,st',fun b hb=>(hf b hb).1⟩⟩
 done:=by
  intro X hP hw hK hc i pins s σ H E I hf st hg
  subst hP hw hK
  obtain ⟨f0,f1,f2,f3,f4,f5⟩:=hf it (by simp)
  exact wpAny_pyNext_range_end (I.ok.hd hc) st (by have:n<=i:=hg; omega) fun h' eb=>⟨rfl,I.turned (t':=s.toks) (fun b o hb e=>eb b o hb e) f0 f1 f3 f4 f5⟩
 self:=fun _ _ _ _ _ st h=>wpAny_pyIter_rangeiter st h
end L2
namespace L2
open PySem PySem.Spec PyProof.Rows
def But (r:Addr) (H H':Hp):Prop:=∀ b o,b≠r->H b=some o->H' b=some o
theorem But.trans {r:Addr} {H H1 H2:Hp} (a:But r H H1) (b:But r H1 H2):But r H H2:=fun c o n h=>b c o n (a c o n h)
theorem But.of {r:Addr} {H H':Hp} (a:iQ H H'):But r H H':=fun c o _ h=>a c o h
theorem But.upd {r:Addr} {H:Hp} (o:HO):But r H (upd H r o):=fun c u n h=>by rw [kQ n]; exact h
theorem But.refl (r:Addr) (H:Hp):But r H H:=fun _ _ _ h=>h
theorem cm {a b:Int} (h:0<=a) (h2:a < 10000000000):CMul a b:=.inl ⟨by omega,by omega⟩
theorem cmr {a b:Int} (h:0<=b) (h2:b < 10000000000):CMul a b:=.inr ⟨by omega,by omega⟩
theorem cmw {a b:Int} (h:-10000000000 < a) (h2:a < 10000000000):CMul a b:=.inl ⟨by omega,by omega⟩
theorem z9Z:CPow 10 18:=⟨by decide,by decide,by decide⟩
theorem small {n:Nat} (h:n<=1000):n<=sizeLine:=Nat.le_of_lt (eZ h)
theorem sz {n:Nat} (h:n<=8388608):n < sizeLine:=Nat.lt_of_le_of_lt h (by decide)
theorem sz' {n:Nat} (h:n<=8388608):n<=sizeLine:=Nat.le_of_lt (sz h)
theorem at0 {v:V} {xs:List V}:atI (v :: xs) 0=some v:=oX (j:=0) rfl
theorem jV (K:W.Frag) (T:String):W.kitOne K (.type T) (.type T)=some true:=by
 unfold W.kitOne
 rw [if_pos (by simp)]
theorem g1X (K:W.Frag):W.kitOne K (.type "int") (.type "bool")=some false:=by with_unfolding_all rfl
theorem i0Q {t R:TS} {D:Ends} {σ:St} {H:Hp} (J:St->Hp->Prop) (h:∀ R':St->Hp->Prop,(∀ σ' H',J σ' H'->R' σ' H')->t { D with nx:=R' } σ H) (hR:∀ σ' H',J σ' H'->R D σ' H'):tSeq t R D σ H:=h (R D) hR
theorem gset {i:Nat} {v:V} {σ:St} {H:Hp} {t R:TS} {D:Ends} {rt:VK} {bk ct:St->Hp->Prop} (h:tSeq t R D (σ.set i (some v)) H):fX i v σ H (Ends.nx ⟨tSeq t R D,rt,bk,ct⟩):=h
theorem d3Q {i:Nat} {v:V} {σ:St} {H:Hp} {P1 P2:St->Hp->Prop} (h:P1 (σ.set i (some v)) H):fX i v σ H (fun σ3 H3=>tTrue σ3 H3 fun b H4=>if b=true then P1 σ3 H4 else P2 σ3 H4):=by
 show if true=true then P1 (σ.set i (some v)) H else P2 (σ.set i (some v)) H
 exact iteT h
theorem But.none {r p:Addr} {H H':Hp} (b:But r H H') (hr:p≠r) (h:H' p=none):H p=none:=by
 cases e:H p with
 | none=>rfl
 | some o=>rw [b p o hr e] at h; cases h
theorem But.put {r p:Addr} {H H':Hp} {o:HO} (b:But r H H') (h:H p = .none):But r H (L2.upd H' p o):=fun c u n e=>by
 rw [kQ (jQ e h)]
 exact b c u n e
def tX {α β:Type} (R:α->β->Prop) (xs:List α) (ys:List β):Prop:=xs.length=ys.length/\∀ (i:Nat) x y,xs[i]?=some x->ys[i]?=some y->R x y
theorem tX.nil {α β:Type} {R:α->β->Prop}:tX R [] []:=⟨rfl,fun i x y h=>by simp at h⟩
theorem tX.mono {α β:Type} {R S:α->β->Prop} {xs:List α} {ys:List β} (h:tX R xs ys) (f:∀ x y,R x y->S x y):tX S xs ys:=⟨h.1,fun i x y a b=>f x y (h.2 i x y a b)⟩
theorem tX.snoc {α β:Type} {R:α->β->Prop} {xs:List α} {ys:List β} {x:α} {y:β} (h:tX R xs ys) (r:R x y):tX R (xs++[x]) (ys++[y]):=by
 have hl:=h.1
 refine ⟨by simp [hl],fun i a b ha hb=>?_⟩
 by_cases hi:i < xs.length
 ·rw [List.getElem?_append_left hi] at ha
  rw [List.getElem?_append_left (by omega)] at hb
  exact h.2 i a b ha hb
 ·rw [List.getElem?_append_right (by omega)] at ha
  rw [List.getElem?_append_right (by omega)] at hb
  have hl2:=(List.getElem?_eq_some_iff.mp ha).1
  have e:i - xs.length=0:=by simp at hl2; omega
  rw [e] at ha
  rw [show i - ys.length=0 by omega] at hb
  cases ha
  cases hb
  exact r
theorem tX.get {α β:Type} {R:α->β->Prop} {xs:List α} {ys:List β} (h:tX R xs ys) {i:Nat} (hi:i < ys.length):∃ x y,xs[i]?=some x/\ys[i]?=some y/\R x y:=by
 have hx:i < xs.length:=by rw [h.1]; exact hi
 exact ⟨xs[i],ys[i],List.getElem?_eq_getElem hx,List.getElem?_eq_getElem hi,h.2 i _ _ (List.getElem?_eq_getElem hx) (List.getElem?_eq_getElem hi)⟩
theorem tX.at {α β:Type} {R:α->β->Prop} {xs:List α} {ys:List β} (h:tX R xs ys) {i:Nat} {x:α} (e:xs[i]?=some x):∃ y,ys[i]?=some y/\R x y:=by
 have hi:i < ys.length:=by rw [<-h.1]; exact (List.getElem?_eq_some_iff.mp e).1
 exact ⟨ys[i],List.getElem?_eq_getElem hi,h.2 i x _ e (List.getElem?_eq_getElem hi)⟩
def GT (K:W.Frag) (mg:Str->Option Value) (x:Str) (xs:List V):Prop:=∃ a,mg x=some (.ref a)/\∀ H:Hp,SqT K H a xs
end L2
namespace L2
open PySem PySem.Spec PyProof.Rows
section
variable {X:Cx}
def a0X (K:W.Frag) (te ts:TE):TE:=fun σ H Q=>te σ H fun x H1=>ts σ H1 fun y H2=>y = .int (-1)/\∃ a xs,x = .ref a/\SqL K H2 a xs/\∀ p,H2 p=none->Q (.ref p) (upd H2 p (.lst xs.reverse))
theorem h1X {e st:Expr} {te ts:TE} {p2 pos:Pos} (he:PE X e te) (hs:PE X st ts):PE X (.Subscript e (.Slice none none (some st) p2) pos) (a0X X.K te ts):=by
 intro pins s σ H Q I h
 refine Subscript_ (thn (he pins s σ H _ I h) fun v s1 hh=>?_)
 obtain ⟨x,H1,I1,r1,q1⟩:=hh
 refine wpAny_Slice ?_
 rw [evalPart_none]
 refine wpAny_pure ?_
 refine wpAny_pure ?_
 show wpAny _ _ (eval st X.env) _ _ _
 refine thn (hs pins s1 σ H1 _ I1 q1) fun vs s3 hh=>?_
 obtain ⟨y,H3,I3,ry,ey,a,xs,ex,hx,q3⟩:=hh
 subst ey ex
 obtain ⟨t,rfl⟩:=ry
 cases r1
 have I4:Inv X pins σ H3 { s3 with heap:=s3.heap.push { cls:=.type "slice",data:=.fields #[.none,.none,.int (-1) t] } }:=I3.kept (t':=s3.toks) fun b ob q=>Heap.get?_push_of_some _ q
 obtain ⟨its,r,ht,hz⟩:=I4.list hx
 refine tail_any (T:="list") (ops:=[.ref a,.ref s3.heap.objs.size]) ht.isList.typeIs slot_list_getitem.lookup ?_ (by with_unfolding_all rfl)
 refine wpAny_getItem_list_slice ht.isList (Heap.IsSliceOf.new ..) .none .none (.int (-1) t) (by simp) ?_ (by rw [List.size_toArray,<-r.length]; exact hz)
 rw [W.krv_pick]
 refine ⟨.ref _,_,I4.laid (t':=s3.toks) (o:=.lst xs.reverse) (fun b ob q=>Heap.get?_push_of_some _ q) (Nat.le_refl _) ?_,rfl,q3 _ (I4.hok.fresh (Nat.le_refl _))⟩
 exact ⟨by rw [List.length_reverse]; exact hz,its.reverse,0,r.reverse,by rw [List.toList_toArray]; exact Heap.get?_push_size _ rfl⟩
end
def Ite (a:Addr):It:=
 ⟨fun i H=>∃ xs x,H a=some (.lst xs)/\xs[i]?=some x,fun i H v H'=>∃ T x,v = .ref T/\H T=none/\H'=upd H T (.tup [.int (i:Nat),x])/\∀ xs,H a=some (.lst xs)->xs[i]?=some x,
  fun i H=>∃ xs,H a=some (.lst xs)/\xs.length<=i⟩
def EnSt (e it a:Addr) (i:Nat) (h:Heap):Prop:=(∃ old,IsEnum h e it (i:Nat) old)/\h.IsListIter it a i
theorem g2Z {P:Program} {w:World} {K:W.Frag} {es:List Expr} {kt:Nat} {tp:Pos} {e it a:Addr} (hne:e≠it):Turn P w K (.Tuple es kt tp) (Ite a) [e,it] e (EnSt e it a) where
 mem:=by simp
 obj:=fun i h st c hc=>by
  obtain ⟨⟨old,h1⟩,⟨o4,h4,_,d4⟩⟩:=st
  simp only [List.mem_cons,List.not_mem_nil,or_false] at hc
  rcases hc with rfl | rfl
  ·exact ⟨_,h1,fun v z=>by cases z⟩
  ·exact ⟨_,h4,fun v z=>by rw [d4] at z; cases z⟩
 keep:=fun i h h' st k=>by
  obtain ⟨⟨old,h1⟩,⟨o4,h4,r4⟩⟩:=st
  exact ⟨⟨old,k _ (by simp) _ h1⟩,⟨o4,k _ (by simp) _ h4,r4⟩⟩
 item:=by
  intro X hP hw hK hc i pins s σ H E I hf st hg
  subst hP hw hK
  obtain ⟨xs,x,hx,ex⟩:=hg
  obtain ⟨⟨old,h1⟩,h4⟩:=st
  obtain ⟨its,rv,p,_⟩:=I.list (SqL.of hx)
  obtain ⟨u,hu,ru⟩:=rv.get ex
  refine wpAny_pyNext_enum_item h1 h4 p.isList (x:=u) (by simpa using hu) hne fun h' a1 a2 a3 a4 hk=>?_
  refine ⟨_,rfl,wpAny_letOwnedTupleGo_enum a1 fun h2' b1 hs=>?_⟩
  have hT:H s.heap.objs.size=none:=I.hok.fresh (Nat.le_refl _)
  have I1:Inv X pins σ (upd H s.heap.objs.size (.tup [.int (i:Nat),x])) { s with heap:=s.heap.push { cls:=.type "tuple",data:=.seq #[.int i s.toks,u] } }:=
   I.laid (t':=s.toks) (fun c o e=>Heap.get?_push_of_some _ e) (Nat.le_refl _) (show tZ X.prog X.w _ _ _ (.tup [.int (i:Nat),x]) from ⟨(by show 2<=sizeLine; decide),[.int i s.toks,u],.cons ⟨_,rfl⟩ (.cons ru .nil),_,Heap.get?_push_size _ rfl,rfl,_,rfl⟩)
  have lt:∀ c∈[e,it],c < s.heap.objs.size:=fun c hc=>by
   obtain ⟨o4,e4,_⟩:=h4
   simp only [List.mem_cons,List.not_mem_nil,or_false] at hc
   rcases hc with rfl | rfl
   ·exact Heap.lt_size h1
   ·exact Heap.lt_size e4
  have hf1:∀ c∈[e,it],pO X pins (upd H s.heap.objs.size (.tup [.int (i:Nat),x])) c:=fun c hc=>⟨by rw [kQ (Nat.ne_of_lt (lt c hc))]; exact (hf c hc).1,(hf c hc).2⟩
  have kk:∀ c o,c∉[e,it]->(s.heap.push { cls:=.type "tuple",data:=.seq #[.int i s.toks,u] }).get? c=some o->h2'.get? c=some o:=fun c o nc eo=>by
   simp only [List.mem_cons,List.not_mem_nil,or_false,not_or] at nc
   obtain ⟨n1,n2⟩:=nc
   rcases Heap.get?_push_cases eo with ⟨rfl,rfl⟩ | e'
   ·exact (hs.2 _ n1).trans a3
   ·exact (hs.2 _ n1).trans (hk c o n1 n2 e')
  have I2:=I1.turnedL (t':=s.toks + 1) (h':=h2') kk hf1
  refine ⟨.ref s.heap.objs.size,_,I2,rfl,⟨_,x,rfl,hT,rfl,fun zs hz=>?_⟩,⟨⟨u,?_⟩,a2.extBut hs.extBut hne.symm⟩,fun c hc=>(hf1 c hc).1⟩
  ·rw [hx] at hz
   cases hz
   exact ex
  ·simpa using b1
 done:=by
  intro X hP hw hK hc i pins s σ H E I hf st hg
  subst hP hw hK
  obtain ⟨xs,hq,hx⟩:=hg
  obtain ⟨⟨old,h1⟩,h4⟩:=st
  obtain ⟨its,rv,p,hz⟩:=I.list (SqL.of hq)
  have hl:=rv.length
  refine wpAny_pyNext_enum_end (I.ok.hd hc) h1 h4 p.isList (by simp; omega) fun h' hk=>⟨rfl,I.turnedL (t':=s.toks) (fp:=[e,it]) (fun c o nc eo=>?_) hf⟩
  simp only [List.mem_cons,List.not_mem_nil,or_false,not_or] at nc
  exact hk c o nc.2 eo
 self:=fun _ _ _ _ _ st h=>by
  obtain ⟨⟨old,h1⟩,_⟩:=st
  exact wpAny_pyIter_enum h1 h
def r2X (ta:TA):TI:=fun σ H R=>ta σ H fun vs H1=>∃ a,vs=[.ref a]/\(∃ xs,H1 a=some (.lst xs))/\R (Ite a) H1
theorem i8Z:bootBuiltins "enumerate"=some (.type "enumerate"):=by decide +kernel
theorem e6Q {X:Cx} {es:List Expr} {kt:Nat} {tp:Pos} {a:Expr} {ta:TA} {p pos:Pos} (hg:Gl X "enumerate") (hm:X.mg "enumerate"=none) (ha:PA X [a] ta) (hs:starEach [a] X.env=[(false,eval a X.env)]:=by rfl) :
  PI X (.Tuple es kt tp) (.Call (.Name "enumerate" p) [a] [] pos) (r2X ta):=by
 intro pins s σ H R I h
 refine Call_ (wV I hg hm i8Z (PyProof.Rows.callWith_type1 (thn (ha pos pins s σ H _ I h) fun us s1 hh=>?_) (by rw [hs]; rfl) (by rfl)))
 obtain ⟨vs,H1,I1,r1,q1⟩:=hh
 obtain ⟨x,e,⟨xs,hx⟩,q⟩:=q1
 subst e
 obtain ⟨u,rfl,ru⟩:=c0Q r1
 cases ru
 obtain ⟨z,its,n,r,hl,e⟩:=I1.lstM hx
 refine call_enumerate_1 e fun h' g1 g2 gz hk=>?_
 refine wpAny_pyIter_enum g1 ?_
 refine ⟨s1.heap.objs.size + 1,[s1.heap.objs.size + 1,s1.heap.objs.size],_,_,H1,rfl,I1.kept (t':=s1.toks) hk,g2Z (Nat.succ_ne_self _),⟨⟨_,by simpa using g1⟩,g2⟩,fun c hc=>?_,q⟩
 have hle:s1.heap.objs.size<=c:=by
  simp only [List.mem_cons,List.not_mem_nil,or_false] at hc
  rcases hc with e | e <;> rw [e]
  ·exact Nat.le_add_right _ 1
  ·exact Nat.le_refl _
 exact I1.fpOk hle (I1.hok.fresh hle)
theorem e3Q {a:Addr} {xs:List V} {g:TG} {tb:TS} {D:Ends} {σ:St} {H:Hp} (Pv:Nat->St->Hp->Prop) (h0:Pv 0 σ H) (hl:∀ i σ H,i<=xs.length->Pv i σ H->H a=some (.lst xs))
  (hs:∀ i x σ H T,xs[i]?=some x->Pv i σ H->H T=none->g (.ref T) σ (upd H T (.tup [.int (i:Nat),x])) fun σ2 H2=>tb { D with nx:=Pv (i + 1),ct:=Pv (i + 1),bk:=D.nx } σ2 H2) (hd:∀ σ H,Pv xs.length σ H->D.nx σ H) :
  ∃ W:Nat->Nat->St->Hp->Prop,(∃ m,W 0 m σ H)/\∀ i m σ H,W i m σ H ->
   ((Ite a).stop i H/\D.nx σ H)\/((Ite a).go i H/\∃ N:St->Hp->Prop,(∀ σ' H',N σ' H'->∃ m',m' < m/\W (i + 1) m' σ' H')/\∀ x H',(Ite a).yld i H x H'->g x σ H' fun σ2 H2=>tb { D with nx:=N,ct:=N,bk:=D.nx } σ2 H2):=by
 refine ⟨fun i m σ H=>m=xs.length - i/\i<=xs.length/\Pv i σ H,⟨xs.length,by simp,Nat.zero_le _,h0⟩,?_⟩
 rintro i m σ H ⟨rfl,hi,p⟩
 have q:=hl i σ H hi p
 by_cases hlt:i < xs.length
 ·refine .inr ⟨⟨xs,xs[i],q,by simp [hlt]⟩,Pv (i + 1),fun σ' H' p'=>⟨xs.length - (i + 1),by omega,rfl,hlt,p'⟩,fun x H' y=>?_⟩
  obtain ⟨T,z,rfl,hT,rfl,y⟩:=y
  exact hs i z σ H T (y xs q) p hT
 ·have e:i=xs.length:=by omega
  subst e
  exact .inl ⟨⟨xs,q,Nat.le_refl _⟩,hd σ H p⟩
end L2
namespace L2
open PySem PySem.Spec PyProof.Rows
def Alk (H:Hp):Nat->V->V->Prop
 | 0,_,_=>False
 | n + 1,x,y=>(x=y/\(jU x=true\/∃ a,x = .ref a)) \/
   ∃ a b xs ys,x = .ref a/\y = .ref b/\((H a=some (.tup xs)/\H b=some (.tup ys))\/(H a=some (.lst xs)/\H b=some (.lst ys)))/\xs.length=ys.length/\ys.length<=8388608 /\
    ∀ (i:Nat) (x y:V),xs[i]?=some x->ys[i]?=some y->Alk H n x y
theorem r7Q {x:V} (h:jU x=true):eqV x x=true:=by
 cases x <;> first | rfl | (cases h; done) | simp [eqV]
def Pl (x:V):Prop:=jU x=true\/∃ a,x = .ref a
theorem Alk.rfl' {H:Hp} (n:Nat) {x:V} (h:Pl x):Alk H (n + 1) x x:=.inl ⟨rfl,h⟩
theorem j8Z {H:Hp} {n:Nat} {a b:Addr} {xs ys:List V} (h1:H a=some (.tup xs)) (h2:H b=some (.tup ys)) (hl:xs.length=ys.length) (hz:ys.length<=8388608) (h:∀ (i:Nat) (x y:V),xs[i]?=some x->ys[i]?=some y->Alk H n x y):Alk H (n + 1) (.ref a) (.ref b):=
 .inr ⟨a,b,xs,ys,rfl,rfl,.inl ⟨h1,h2⟩,hl,hz,h⟩
theorem q0Z {H:Hp} {n:Nat} {a b:Addr} {xs ys:List V} (h1:H a=some (.lst xs)) (h2:H b=some (.lst ys)) (hl:xs.length=ys.length) (hz:ys.length<=8388608) (h:∀ (i:Nat) (x y:V),xs[i]?=some x->ys[i]?=some y->Alk H n x y):Alk H (n + 1) (.ref a) (.ref b):=
 .inr ⟨a,b,xs,ys,rfl,rfl,.inr ⟨h1,h2⟩,hl,hz,h⟩
theorem z4Z {H:Hp} {a b:Addr} {xs:List V} (n:Nat) (h1:H a=some (.lst xs)) (h2:H b=some (.lst xs)) (hz:xs.length<=8388608) (h:∀ x∈xs,Pl x):Alk H (n + 2) (.ref a) (.ref b):=
 q0Z h1 h2 rfl hz fun i x y e1 e2=>by
  rw [e1] at e2
  cases e2
  exact Alk.rfl' n (h x (List.mem_of_getElem? e1))
theorem a5Z {H:Hp} {n:Nat} {a b:Addr} {x y x' y':V} (h1:H a=some (.tup [x,y])) (h2:H b=some (.tup [x',y'])) (hx:Alk H n x x') (hy:Alk H n y y'):Alk H (n + 1) (.ref a) (.ref b):=
 j8Z h1 h2 rfl (by show 2<=8388608; decide) fun i u v e1 e2=>by
  rcases i with _ | _ | i
  ·cases e1; cases e2; exact hx
  ·cases e1; cases e2; exact hy
  ·simp at e1
theorem xX {n:Nat} {e:Nat->Bool} (h:∀ j,j < n->e j=true):(List.range n).all e=true:=List.all_eq_true.mpr fun j hj=>h j (List.mem_range.mp hj)
section
variable {X:Cx} {pins:List (Addr × Obj)} {σ:St} {H:Hp} {s:Shared}
theorem qY (I:Inv X pins σ H s) {a:Addr} {xs:List V} (h:H a=some (.tup xs)):∃ its:List Value,rZ xs its/\s.heap.IsTuple a its.toArray:=by
 obtain ⟨its,r,pl,hz⟩:=I.tuple (SqT.of (K:=X.K) h)
 exact ⟨its,r,pl⟩
theorem wJ (I:Inv X pins σ H s) {a:Addr} {xs:List V} (h:H a=some (.lst xs)):∃ its:List Value,rZ xs its/\s.heap.IsList a its.toArray:=by
 obtain ⟨its,r,pl,hz⟩:=I.list (SqL.of (K:=X.K) h)
 exact ⟨its,r,pl.isList⟩
theorem yJ {xs ys:List V} {us ws:List Value} {A:Around} {R:V->V->Bool->Prop} (ru:rZ xs us) (rw':rZ ys ws) {e:Nat->Bool} (h:∀ (i:Nat) (x y:V) (u w:Value),xs[i]?=some x->ys[i]?=some y->qZ x u->qZ y w->SeqAt.EqAt A s u w (e i)) :
  ∀ j (h1:j < us.toArray.size) (h2:j < ws.toArray.size),SeqAt.EqAt A s us.toArray[j] ws.toArray[j] (e j):=fun j h1 h2=>by
 have l1:=ru.length
 have l2:=rw'.length
 have hj1:j < xs.length:=by simp at h1; omega
 have hj2:j < ys.length:=by simp at h2; omega
 obtain ⟨u,eu,r1⟩:=ru.get (i:=j) (x:=xs[j]) (List.getElem?_eq_getElem hj1)
 obtain ⟨w,ew,r2⟩:=rw'.get (i:=j) (x:=ys[j]) (List.getElem?_eq_getElem hj2)
 have e1:us.toArray[j]=u:=by
  have:us[j]?=some u:=eu
  simp only [List.getElem_toArray]
  exact Option.some.inj ((List.getElem?_eq_getElem (by simpa using h1)).symm.trans this)
 have e2:ws.toArray[j]=w:=by
  have:ws[j]?=some w:=ew
  simp only [List.getElem_toArray]
  exact Option.some.inj ((List.getElem?_eq_getElem (by simpa using h2)).symm.trans this)
 rw [e1,e2]
 exact h j _ _ u w (List.getElem?_eq_getElem hj1) (List.getElem?_eq_getElem hj2) r1 r2
theorem pW (I:Inv X pins σ H s):∀ (n:Nat) (A:Around) (x y:V) (v u:Value),A.units + n < cLine->Alk H n x y->qZ x v->qZ y u->SeqAt.EqAt A s v u true
 | 0,_,_,_,_,_,_,h,_,_=>h.elim
 | n + 1,A,x,y,v,u,hu,h,rx,ry=>by
  rcases h with ⟨rfl,hp⟩ | ⟨a,b,xs,ys,rfl,rfl,hab,hl,hz,hall⟩
  ·rcases hp with hp | ⟨a,rfl⟩
   ·have:=h9Q (A:=A) (s:=s) rx ry hp hp
    rwa [r7Q hp] at this
   ·cases rx
    cases ry
    exact SeqAt.EqAt.same _
  ·cases rx
   cases ry
   by_cases eab:a=b
   ·subst eab
    exact SeqAt.EqAt.same _
   refine SeqAt.EqAt.of_refs eab ?_
   have hu1:A.in1.units + n < cLine:=by
    have:A.in1.units=A.units + 1:=rfl
    omega
   rcases hab with ⟨h1,h2⟩ | ⟨h1,h2⟩
   ·obtain ⟨us,ru,pu⟩:=qY I h1
    obtain ⟨ws,rw',pw⟩:=qY I h2
    have l1:=ru.length
    have l2:=rw'.length
    have:=SeqAt.RcAt.tuples (e:=fun _=>true) pu pw (by omega) (yJ (R:=fun _ _ _=>True) ru rw' fun i x y u w e1 e2 r1 r2=>pW I n A.in1 x y u w hu1 (hall i x y e1 e2) r1 r2)
    rwa [show ((List.range (min us.toArray.size ws.toArray.size)).all (fun _=>true) && us.toArray.size == ws.toArray.size)=true from by
     rw [xX (fun _ _=>rfl),Bool.true_and]
     simp only [List.size_toArray,beq_iff_eq]
     omega] at this
   ·obtain ⟨us,ru,pu⟩:=wJ I h1
    obtain ⟨ws,rw',pw⟩:=wJ I h2
    have l1:=ru.length
    have l2:=rw'.length
    have:=SeqAt.RcAt.lists (e:=fun _=>true) pu pw (by simp only [List.size_toArray]; omega) (by omega) (yJ (R:=fun _ _ _=>True) ru rw' fun i x y u w e1 e2 r1 r2=>pW I n A.in1 x y u w hu1 (hall i x y e1 e2) r1 r2)
    rwa [show (List.range us.toArray.size).all (fun _=>true)=true from xX (fun _ _=>rfl)] at this
end
section
variable {X:Cx}
theorem b5Z (hu:X.A.units + 64 < cLine):OpR X (compareOp .NotEq) (fun x y H Q=>∃ (n:Nat) (a b:Addr),n<=50/\x = .ref a/\y = .ref b/\((∃ zs,H a=some (.tup zs))\/∃ zs,H a=some (.lst zs))/\Alk H n x y/\Q (.bl false) H):=by
 intro pins s σ H x y v u Q I rx ry h
 obtain ⟨n,a,b,hn,rfl,rfl,hk,al,q⟩:=h
 cases rx
 cases ry
 cases n with
 | zero=>exact al.elim
 | succ n =>
  have hu1:X.A.in1.units + n < cLine:=by
   have:X.A.in1.units=X.A.units + 1:=rfl
   omega
  rcases al with ⟨h1,hp⟩ | ⟨a',b',xs,ys,e1,e2,hab,hl,hz,hall⟩
  ·cases h1
   rcases hk with ⟨zs,hz⟩ | ⟨zs,hz⟩
   ·obtain ⟨us,ru,pu⟩:=qY I hz
    refine SeqAt.RcNeAt.tuples (e:=fun _=>true) pu pu (by omega) (fun j h1 h2=>SeqAt.EqAt.same _) _ _ _ _ ?_
    rw [show ((List.range (min us.toArray.size us.toArray.size)).all (fun _=>true) && us.toArray.size == us.toArray.size)=true from by
     rw [xX (fun _ _=>rfl),Bool.true_and]
     exact beq_self_eq_true _]
    exact ⟨.bl false,H,I,rfl,q⟩
   ·obtain ⟨us,ru,pu⟩:=wJ I hz
    refine SeqAt.RcNeAt.lists (e:=fun _=>true) pu pu rfl (by omega) (fun j h1 h2=>SeqAt.EqAt.same _) _ _ _ _ ?_
    rw [show (List.range us.toArray.size).all (fun _=>true)=true from xX (fun _ _=>rfl)]
    exact ⟨.bl false,H,I,rfl,q⟩
  cases e1
  cases e2
  rcases hab with ⟨h1,h2⟩ | ⟨h1,h2⟩
  ·obtain ⟨us,ru,pu⟩:=qY I h1
   obtain ⟨ws,rw',pw⟩:=qY I h2
   have l1:=ru.length
   have l2:=rw'.length
   refine SeqAt.RcNeAt.tuples (e:=fun _=>true) pu pw (by omega) (yJ (R:=fun _ _ _=>True) ru rw' fun i x y u w e1 e2 r1 r2=>pW I n X.A.in1 x y u w hu1 (hall i x y e1 e2) r1 r2) _ _ _ _ ?_
   rw [show ((List.range (min us.toArray.size ws.toArray.size)).all (fun _=>true) && us.toArray.size == ws.toArray.size)=true from by
     rw [xX (fun _ _=>rfl),Bool.true_and]
     simp only [List.size_toArray,beq_iff_eq]
     omega]
   exact ⟨.bl false,H,I,rfl,q⟩
  ·obtain ⟨us,ru,pu⟩:=wJ I h1
   obtain ⟨ws,rw',pw⟩:=wJ I h2
   have l1:=ru.length
   have l2:=rw'.length
   refine SeqAt.RcNeAt.lists (e:=fun _=>true) pu pw (by simp only [List.size_toArray]; omega) (by omega) (yJ (R:=fun _ _ _=>True) ru rw' fun i x y u w e1 e2 r1 r2=>pW I n X.A.in1 x y u w hu1 (hall i x y e1 e2) r1 r2) _ _ _ _ ?_
   rw [show (List.range us.toArray.size).all (fun _=>true)=true from xX (fun _ _=>rfl)]
   exact ⟨.bl false,H,I,rfl,q⟩
end
end L2
namespace L2
open PySem PySem.Spec PyProof.Rows
section
variable {X:Cx}
theorem h2Z:OpR X (compareOp .IsNot) (fun x y H Q=>∃ a b,x = .bl a/\y = .bl b/\Q (.bl (!(a == b))) H):=by
 intro pins s σ H x y v u Q I rx ry h
 obtain ⟨a,b,rfl,rfl,q⟩:=h
 cases rx
 cases ry
 cases a <;> cases b <;> exact wpAny_pure ⟨.bl _,H,I,rfl,q⟩
end
end L2
namespace L2
open PySem PySem.Spec PyProof.Rows
theorem f5Q {a:Int} (h:-1<=a):Builtin.Range.rangeSize a (-1) (-1)=a + 1:=by
 unfold Builtin.Range.rangeSize
 rw [if_neg (by decide)]
 by_cases e:a = -1
 ·subst e
  rfl
 ·rw [if_pos (by omega)]
  have:a - -1 - 1=a:=by omega
  rw [this,show -(-1:Int)=1 from rfl,Int.ediv_one]
theorem o9Q {a:Int} (h:-1<=a) (h2:a < 100000):Builtin.Range.small a (-1) (-1)=true:=by
 unfold Builtin.Range.small
 rw [f5Q h]
 simp only [Builtin.Range.rangeFitsLong,Bool.and_eq_true,Bool.or_eq_true,decide_eq_true_eq,beq_iff_eq]
 refine ⟨?_,?_⟩ <;> first | omega | (constructor <;> omega) | exact .inr (by decide)
def s2X (ta:TA):TI:=fun σ H R=>ta σ H fun vs H1=>∃ a:Int,vs=[.int a,.int (-1),.int (-1)] /\ -1<=a/\a < 100000/\R (Its a (-1) (a + 1).toNat) H1
theorem i2Z {X:Cx} {tg a b c:Expr} {ta:TA} {p pos:Pos} (hg:Gl X "range") (hm:X.mg "range"=none) (ha:PA X [a,b,c] ta) (hs:starEach [a,b,c] X.env=[(false,eval a X.env),(false,eval b X.env),(false,eval c X.env)]:=by rfl)
  (hs2:starEach [b,c] X.env=[(false,eval b X.env),(false,eval c X.env)]:=by rfl):PI X tg (.Call (.Name "range" p) [a,b,c] [] pos) (s2X ta):=by
 intro pins s σ H R I h
 refine Call_ (wV I hg hm boot_range (PyProof.Rows.callWith_type1 (thn (ha pos pins s σ H _ I h) fun us s1 hh=>?_) (by rw [hs,hs2]) (by rw [hs2]; rfl)))
 obtain ⟨vs,H1,I1,r1,q1⟩:=hh
 obtain ⟨j,e,h1,h2,q⟩:=q1
 subst e
 cases r1 with
 | cons r rr =>
  cases rr with
  | cons r' rr =>
   cases rr with
   | cons r'' rr =>
    cases rr
    obtain ⟨t,rfl⟩:=r
    obtain ⟨t',rfl⟩:=r'
    obtain ⟨t'',rfl⟩:=r''
    refine call_range_3 (by decide) ?_ (Or.inl (PyProof.noPylong_small (by decide)))
    refine wpAny_pyIter_range (IsRange.new ..) (o9Q h1 h2) ?_
    have I2:Inv X pins σ H1 { s1 with heap:=s1.heap.push { cls:=.type "range",data:=.fields #[.int j t,.int (-1) t',.int (-1) t''] } }:=I1.kept (t':=s1.toks) fun b o e=>Heap.get?_push_of_some _ e
    refine ⟨_,[(s1.heap.push { cls:=.type "range",data:=.fields #[.int j t,.int (-1) t',.int (-1) t''] }).objs.size],_,_,H1,rfl,I2.kept (t':=s1.toks) fun b o e=>Heap.get?_push_of_some _ e,n9Q _ j (-1) (j + 1).toNat,?_,fun b hb=>?_,q⟩
    ·have e1:j + ((0:Nat):Int) * (-1)=j:=by omega
     have e2:(((j + 1).toNat:Nat):Int) - ((0:Nat):Int)=Builtin.Range.rangeSize j (-1) (-1):=by
      rw [f5Q h1]
      omega
     show IsRangeIter _ _ (j + ((0:Nat):Int) * (-1)) ((((j + 1).toNat:Nat):Int) - ((0:Nat):Int)) (-1)
     rw [e1,e2]
     exact Heap.get?_push_size _ rfl
    ·have e:b=(s1.heap.push { cls:=.type "range",data:=.fields #[.int j t,.int (-1) t',.int (-1) t''] }).objs.size:=by simpa using hb
     subst e
     exact I2.fpOk (Nat.le_refl _) (I2.hok.fresh (Nat.le_refl _))
theorem c5Z {a:Int} {n:Nat} {g:TG} {tb:TS} {D:Ends} {σ:St} {H:Hp} (Pv:Nat->St->Hp->Prop) (ha:a + 1=(n:Int)) (h0:Pv n σ H)
  (hs:∀ i σ H,i < n->Pv (i + 1) σ H->g (.int (i:Nat)) σ H fun σ2 H2=>tb { D with nx:=Pv i,ct:=Pv i,bk:=D.nx } σ2 H2) (hd:∀ σ H,Pv 0 σ H->D.nx σ H) :
  ∃ W:Nat->Nat->St->Hp->Prop,(∃ m,W 0 m σ H)/\∀ i m σ H,W i m σ H ->
   ((Its a (-1) (a + 1).toNat).stop i H/\D.nx σ H)\/((Its a (-1) (a + 1).toNat).go i H/\∃ N:St->Hp->Prop,(∀ σ' H',N σ' H'->∃ m',m' < m/\W (i + 1) m' σ' H')/\∀ x H',(Its a (-1) (a + 1).toNat).yld i H x H'->g x σ H' fun σ2 H2=>tb { D with nx:=N,ct:=N,bk:=D.nx } σ2 H2):=by
 have en:(a + 1).toNat=n:=by omega
 rw [en]
 refine ⟨fun i m σ H=>m=n - i/\i<=n/\Pv (n - i) σ H,⟨n,Nat.sub_zero n |>.symm,Nat.zero_le _,h0⟩,?_⟩
 rintro i m σ H ⟨rfl,hi,p⟩
 by_cases hlt:i < n
 ·refine .inr ⟨hlt,Pv (n - (i + 1)),fun σ' H' p'=>⟨n - (i + 1),by omega,rfl,hlt,p'⟩,fun x H' y=>?_⟩
  obtain ⟨rfl,rfl⟩:=y
  have e:a + (i:Nat) * (-1)=((n - (i + 1):Nat):Int):=by omega
  rw [e]
  exact hs (n - (i + 1)) σ _ (by omega) (by rw [show n - (i + 1) + 1=n - i from by omega]; exact p)
 ·obtain rfl:i=n:=by omega
  rw [Nat.sub_self] at p
  exact .inl ⟨Nat.le_refl _,hd σ H p⟩
end L2
namespace L2
open PySem PySem.Spec PyProof.Rows
section
variable {prog:Program} {w:World} {A:Around} {E:Value->Shared->Prop} {s:Shared} {I l:Addr} {items:Array Value}
end
theorem s7Q:bootBuiltins "reversed"=some (.type "reversed"):=by decide +kernel
theorem d5Z:bootBuiltins "list"=some (.type "list"):=by decide +kernel
section
variable {prog:Program} {w:World} {κ:Type} [DecidableEq κ] {knd:HeapKind prog w κ} {A:Around} {E:Value->Shared->Prop} {s:Shared}
end
section
variable {X:Cx} {pins:List (Addr × Obj)} {σ:St} {H:Hp} {s:Shared} {a:Addr} {y v:V} {u r:Value} {A:Around} {E:Value->Shared->Prop}
end
end L2
namespace L2
open PySem PySem.Spec PyProof.Rows
theorem r0Z {k:Key} {v:Value} (h:yO k v=true):qZ (kV k) v:=by
 cases k with
 | inl i =>
  cases v with
  | int j t =>
   have e:j=i:=by simpa [yO,Value.isInt] using h
   exact ⟨t,by rw [e]⟩
  | _=>cases h
 | inr x =>
  cases v with
  | str y t =>
   have e:y=x:=by simpa [yO,Value.isStrOf] using h
   exact ⟨t,by rw [e]⟩
  | _=>cases h
theorem f6Q:∀ {xs:List V} {us:List Value},xs.length=us.length->(∀ (i:Nat) (x:V) (u:Value),xs[i]?=some x->us[i]?=some u->qZ x u)->rZ xs us
 | [],[],_,_=>.nil
 | [],_ :: _,h,_=>nomatch h
 | _ :: _,[],h,_=>nomatch h
 | x :: xs,u :: us,h,r=>.cons (r 0 x u rfl rfl) (f6Q (Nat.succ.inj h) fun i y w e1 e2=>r (i + 1) y w e1 e2)
section
variable {X:Cx} {pins:List (Addr × Obj)} {σ:St} {H:Hp} {s:Shared}
end
end L2
namespace L2
open PySem PySem.Spec PyProof.Rows
section
variable {prog:Program} {w:World} {A:Around} {E:Value->Shared->Prop} {s:Shared}
end
section
variable {K:W.Frag} {a b D:Addr} {xs ys:List V} {g:TG} {tt:TT} {te:TE} {σ0:St} {H0:Hp} {Q:VK}
end
def rgl (lo:Int) (n:Nat):List V:=(List.range n).map fun (i:Nat)=>V.int (lo + (i:Nat))
def e5Z (ta:TA):TE:=fun σ H Q=>ta σ H fun vs H1=>∃ i j:Int,vs=[.int i,.int j]/\(-(2 ^ 62)<=i/\i < 2 ^ 62 /\ -(2 ^ 62)<=j/\j < 2 ^ 62)/\(j - i).toNat<=65536/\∀ p,H1 p=none->Q (.ref p) (upd H1 p (.lst (rgl i (j - i).toNat)))
theorem p9Q {X:Cx} {a b:Expr} {ta:TA} {p1 p2 pos1 pos2:Pos} (hc:X.calm=true) (hgl:Gl X "list") (hml:X.mg "list"=none) (hg:Gl X "range") (hm:X.mg "range"=none) (ha:PA X [a,b] ta)
  (h1:starEach [Expr.Call (.Name "range" p2) [a,b] [] pos2] X.env=[(false,eval (.Call (.Name "range" p2) [a,b] [] pos2) X.env)]:=by rfl) (hs:starEach [a,b] X.env=[(false,eval a X.env),(false,eval b X.env)]:=by rfl) (hs2:starEach [b] X.env=[(false,eval b X.env)]:=by rfl) :
  PE X (.Call (.Name "list" p1) [.Call (.Name "range" p2) [a,b] [] pos2] [] pos1) (e5Z ta):=by
 intro pins s σ H Q I h
 refine wpAny_Call_Name_kw (wV I hgl hml d5Z ?_)
 refine PyProof.Rows.callWith_type1 ?_ (by rw [h1]; rfl) (by rfl)
 rw [h1]
 (show wpAny _ _ (spliced [(false,eval (.Call (.Name "range" p2) [a,b] [] pos2) X.env)]) _ _ s; refine Calls.spliced_cons ?_)
 refine Call_ (wV I hg hm boot_range (PyProof.Rows.callWith_type1 (thn (ha pos2 pins s σ H _ I h) fun us s1 hh=>?_) (by rw [hs,hs2]) (by rw [hs2]; rfl)))
 obtain ⟨vs,H1,I1,r1,q1⟩:=hh
 obtain ⟨i,j,e,⟨q1,q2,q3,q4⟩,hz,q⟩:=q1
 subst e
 obtain ⟨u,v,rfl,ru,rv⟩:=p2Q r1
 obtain ⟨t,rfl⟩:=ru
 obtain ⟨t',rfl⟩:=rv
 refine call_range_2 (Calls.spliced_nil ?_)
 have hn:Builtin.Range.rangeSize i j 1=(((j - i).toNat:Nat):Int):=by rw [rangeSize_one]; split <;> omega
 refine call_list_range (s:={ s1 with heap:=s1.heap.push { cls:=.type "range",data:=.fields #[.int i t,.int j t',.int 1 s1.toks] },toks:=s1.toks + 1 }) (I1.ok.hd hc) (IsRange.new ..) (small_one q1 q2 q3 q4) hn (Nat.le_trans hz (by decide)) fun h' tk acc' c' hk hS hacc=>?_
 have hsz:s1.heap.objs.size<=(s1.heap.push { cls:=.type "range",data:=.fields #[.int i t,.int j t',.int 1 s1.toks] }).objs.size:=by unfold Heap.push; simp
 refine ⟨.ref _,_,I1.laid (t':=tk) (o:=.lst (rgl i (j - i).toNat)) (fun b o e'=>hk b o (Heap.get?_push_of_some _ e')) hsz ?_,rfl,q _ (I1.hok.fresh hsz)⟩
 have hsl:(65536:Nat)<=sizeLine:=by decide
 refine ⟨by unfold rgl; rw [List.length_map,List.length_range]; exact Nat.le_trans hz hsl,acc'.toList,c',f6Q ?_ fun k x w e1 e2=>?_,by simpa using hS⟩
 ·unfold rgl
  rw [List.length_map,List.length_range]
  have:=hacc.1
  simpa using this.symm
 ·unfold rgl at e1
  rw [List.getElem?_map] at e1
  obtain ⟨m,hm',rfl⟩:=Option.map_eq_some_iff.mp e1
  have hk':k < (j - i).toNat:=by
   have:=(List.getElem?_eq_some_iff.mp hm').1
   simpa using this
  rw [List.getElem?_range hk'] at hm'
  cases hm'
  obtain ⟨t3,hv⟩:=hacc.2 k w (by rw [<-Array.getElem?_toList]; exact e2)
  exact ⟨t3,by rw [hv]; simp⟩
end L2
namespace L2
open PySem PySem.Spec PyProof.Rows
variable {X:Cx}
theorem i1X (hu:X.A.units + 64 < cLine):OpR X (compareOp .Eq) (fun x y H Q=>∃ (n:Nat) (a b:Addr),n<=50/\x = .ref a/\y = .ref b/\((∃ zs,H a=some (.tup zs))\/∃ zs,H a=some (.lst zs))/\Alk H n x y/\Q (.bl true) H):=by
 intro pins s σ H x y v u Q I rx ry h
 obtain ⟨n,a,b,hn,rfl,rfl,hk,al,q⟩:=h
 cases rx
 cases ry
 cases n with
 | zero=>exact al.elim
 | succ n =>
  have hu1:X.A.in1.units + n < cLine:=by
   have:X.A.in1.units=X.A.units + 1:=rfl
   omega
  rcases al with ⟨h1,hp⟩ | ⟨a',b',xs,ys,e1,e2,hab,hl,hz,hall⟩
  ·cases h1
   rcases hk with ⟨zs,hz⟩ | ⟨zs,hz⟩
   ·obtain ⟨us,ru,pu⟩:=qY I hz
    refine SeqAt.RcAt.tuples (e:=fun _=>true) pu pu (by omega) (fun j h1 h2=>SeqAt.EqAt.same _) _ _ _ _ ?_
    rw [show ((List.range (min us.toArray.size us.toArray.size)).all (fun _=>true) && us.toArray.size == us.toArray.size)=true from by
     rw [xX (fun _ _=>rfl),Bool.true_and]
     exact beq_self_eq_true _]
    exact ⟨.bl true,H,I,rfl,q⟩
   ·obtain ⟨us,ru,pu⟩:=wJ I hz
    refine SeqAt.RcAt.lists (e:=fun _=>true) pu pu rfl (by omega) (fun j h1 h2=>SeqAt.EqAt.same _) _ _ _ _ ?_
    rw [show (List.range us.toArray.size).all (fun _=>true)=true from xX (fun _ _=>rfl)]
    exact ⟨.bl true,H,I,rfl,q⟩
  cases e1
  cases e2
  rcases hab with ⟨h1,h2⟩ | ⟨h1,h2⟩
  ·obtain ⟨us,ru,pu⟩:=qY I h1
   obtain ⟨ws,rw',pw⟩:=qY I h2
   have l1:=ru.length
   have l2:=rw'.length
   refine SeqAt.RcAt.tuples (e:=fun _=>true) pu pw (by omega) (yJ (R:=fun _ _ _=>True) ru rw' fun i x y u w e1 e2 r1 r2=>pW I n X.A.in1 x y u w hu1 (hall i x y e1 e2) r1 r2) _ _ _ _ ?_
   rw [show ((List.range (min us.toArray.size ws.toArray.size)).all (fun _=>true) && us.toArray.size == ws.toArray.size)=true from by
     rw [xX (fun _ _=>rfl),Bool.true_and]
     simp only [List.size_toArray,beq_iff_eq]
     omega]
   exact ⟨.bl true,H,I,rfl,q⟩
  ·obtain ⟨us,ru,pu⟩:=wJ I h1
   obtain ⟨ws,rw',pw⟩:=wJ I h2
   have l1:=ru.length
   have l2:=rw'.length
   refine SeqAt.RcAt.lists (e:=fun _=>true) pu pw (by simp only [List.size_toArray]; omega) (by omega) (yJ (R:=fun _ _ _=>True) ru rw' fun i x y u w e1 e2 r1 r2=>pW I n X.A.in1 x y u w hu1 (hall i x y e1 e2) r1 r2) _ _ _ _ ?_
   rw [show (List.range us.toArray.size).all (fun _=>true)=true from xX (fun _ _=>rfl)]
   exact ⟨.bl true,H,I,rfl,q⟩
end L2
namespace L2
open PySem PySem.Spec PyProof.Rows
def MCal (P:Program) (w:World) (K:W.Frag) (mg:Str->Option Value) (base:Heap) (k:Nat) (C:Addr) (m:Str) (ps:List Str) (sp:Sp):Prop:=
 ∃ (f:Addr) (fd:FuncData),gU P w K mg base CX0 k f fd ps sp/\mY K fd ps []/\Meth K C m f
def HasM (K:W.Frag) (C:Addr) (m qual:Str) (st:Stmt) (ps:List Str):Prop:=∃ (f:Addr) (fd:FuncData),Fun K m qual st f fd/\mY K fd ps []/\Meth K C m f
theorem HasM.cal {P:Program} {w:World} {K:W.Frag} {mg:Str->Option Value} {base:Heap} {C:Addr} {m qual:Str} {st:Stmt} {N ps:List Str} {k:Nat} {sp:Sp} (h:HasM K C m qual st ps) (S:yQ N ps (gQ st)) (len:∀ vs H Q E,sp vs H Q E->vs.length=ps.length)
  (hbody:∀ (f:Addr) (cdv:Value) (A:Around) (outer:List Env) (s:Shared) (H:Hp) (vs:List V) (Q:VK) (E:XK),sZ k (A.deeper (envOfC qual (gQ st) s.heap.objs.size f cdv))->sp vs H Q E ->
   ∃ t,PSs (cxOf CX0 P w K mg base N qual (gQ st) f cdv A outer s H E).nox (vQ st) t/\t { nx:=fun _ H'=>Q .non H',rt:=Q } (start N vs) H):MCal P w K mg base (k + 1) C m ps sp:=by
 obtain ⟨f,fd,F,b,m⟩:=h
 exact ⟨f,fd,F.ok S len fun cdv A outer s H vs Q E hr h=>hbody f cdv A outer s H vs Q E hr h,b,m⟩
section
variable {X:Cx} {k:Nat} {C:Addr} {ps:List Str} {sp:Sp} {m:Str} {pos apos:Pos} {e o:Expr} {es:List Expr} {ta:TE} {t:TA}
theorem pK {pl:Sem Bool} (c:MCal X.prog X.w X.K X.mg X.base k C m ps sp) (cl:Cls X.K C) (hr:sZ k X.A) (he:PE X o ta) (ha:PA X (e :: es) t)
  (hst:starEach (e :: es) X.env=(false,eval e X.env) :: starEach es X.env:=by rfl) (hpl:(backTo pos (starEach es X.env)).any (·.1)=false:=by rfl)
  (ht:eval (.Call (.Attribute o m apos) (e :: es) [] pos) X.env=(do
   let ov <- eval o X.env
   standAt apos.atName
   let (f,first) <- holding [ov] (getMethod ov m pl)
   callWith pos f first (backTo pos (starEach (e :: es) X.env)) (backToKw pos (keywordEach [] X.env))):=by rfl) :
  PE X (.Call (.Attribute o m apos) (e :: es) [] pos) (w9Z C m sp [] E0 ta t):=by
 obtain ⟨f,fd,F,b,hm⟩:=c
 exact t7Z (pl:=pl) he cl hm F hr b .nil o0Z ha hst hpl ht
end
section
variable {P:Program} {w:World} {K:W.Frag} {mg:Str->Option Value} {base:Heap} {N:List Str} {qual:Str} {scope:Scope} {f:Addr} {cd:Value} {A:Around} {outer:List Env} {s:Shared} {H:Hp} {E:XK}
end
end L2
namespace L2
open PySem
theorem tX.unsnoc {α β:Type} {R:α->β->Prop} {xs:List α} {x:α} {ys:List β} (h:tX R (xs++[x]) ys):∃ ys' y,ys=ys'++[y]/\tX R xs ys'/\R x y:=by
 rcases List.eq_nil_or_concat ys with e | ⟨ys',y,e⟩
 ·subst e
  have:=h.1
  simp at this
 ·rw [List.concat_eq_append] at e
  subst e
  have hl:xs.length=ys'.length:=by
   have:=h.1
   simpa using this
  refine ⟨ys',y,rfl,⟨hl,fun i a b ha hb=>h.2 i a b ?_ ?_⟩,h.2 xs.length x y ?_ ?_⟩
  ·rw [List.getElem?_append_left (List.getElem?_eq_some_iff.mp ha).1]; exact ha
  ·rw [List.getElem?_append_left (List.getElem?_eq_some_iff.mp hb).1]; exact hb
  ·rw [List.getElem?_append_right (Nat.le_refl _),Nat.sub_self]; rfl
  ·rw [hl,List.getElem?_append_right (Nat.le_refl _),Nat.sub_self]; rfl
end L2
namespace L2
open PySem PySem.Spec PyProof.Rows
def RawD (h:Heap) (d:Addr) (es:Array DictEntry) (ep:Nat):Prop:=∃ o,h.get? d=some o/\o.ExactDict/\o.data = .dict es ep
theorem RawD.typeIs {s:Shared} {d:Addr} {es:Array DictEntry} {ep:Nat} (m:RawD s.heap d es ep):s.TypeIs (.ref d) "dict":=let ⟨o,g,c,_⟩:=m; ⟨o,g,c.1⟩
theorem RawD.at' {h h':Heap} {d:Addr} {es:Array DictEntry} {ep:Nat} (m:RawD h d es ep) (e:∀ o,h.get? d=some o->h'.get? d=some o):RawD h' d es ep:=let ⟨o,g,r⟩:=m; ⟨o,e _ g,r⟩
theorem RawD.lt {h:Heap} {d:Addr} {es:Array DictEntry} {ep:Nat} (m:RawD h d es ep):d < h.objs.size:=let ⟨_,g,_⟩:=m; Heap.lt_size g
section
variable {prog:Program} {w:World} {A:Around} {E:Value->Shared->Prop} {s:Shared}
theorem t7Q {d:Addr} {es:Array DictEntry} {ep:Nat} {Q:Value->Shared->Prop} (nd:(d == sysModules)=false) (m:RawD s.heap d es ep)
  (q:Q (.ref s.heap.objs.size) { s with heap:=s.heap.push { cls:=.type "dict_keyiterator",data:=.fields #[.ref d,.int 0 0,.int es.size 0,.int ep 0] } }):wpAny (model prog w) A (pyIter (.ref d)) Q E s:=by
 have ty:=m.typeIs
 obtain ⟨o,g,c,dat⟩:=m
 refine wpAny_pyIter_slot ty F.slot_dict_iter (wpAny_call_entry F.slot_dict_iter ty F.entry_dict_iter ?_ (F.args_dict_iter_1 _))
 unfold Builtin.«dict.__iter__» Builtin.Dict.dictSlotNone
 refine wpAny_bind (wpAny_bind (wpAny_notOrdered_dict ty ?_))
 (show wpAny _ _ (pure (Value.ref d)) _ _ s; refine wpAny_pure ?_)
 (show wpAny _ _ (Builtin.Dict.showsAll d >>= _) _ _ s; unfold Builtin.Dict.showsAll; rw [if_neg (by rw [nd]; exact Bool.false_ne_true)])
 refine wpAny_bind (wpAny_pure (wpAny_bind (wpAny_dictEntries g dat (wpAny_bind (wpAny_dictEpoch g dat ?_)))))
 refine wpAny_bind (wpAny_newObj_type (wpAny_pure ⟨_,rfl,"dict_keyiterator",_,⟨_,Heap.get?_push_size _ rfl,rfl⟩,F.slot_dict_keyiterator_next.lookup,?_⟩))
 simpa [rawInt] using q
theorem j0Q {it d:Addr} {i ep:Nat} {es:Array DictEntry} {Q:Option Value->Shared->Prop} (hh:A.handled=none) (k:s.heap.IsKeyIter it d i es.size ep) (m:RawD s.heap d es ep)
  (q1:∀ e h',es[i]?=some e->h'.IsKeyIter it d (i + 1) es.size ep->Heap.SameBut it s.heap h'->Q (some e.key) { s with heap:=h' }) (q0:es[i]?=none->∀ h',Heap.ExtBut it s.heap h'->Q none { s with heap:=h' }) :
  wpAny (model prog w) A (pyNext (.ref it)) Q E s:=by
 have ty:=k.typeIs
 obtain ⟨o,g,c,dat⟩:=k
 obtain ⟨od,gd,cd,dd⟩:=m
 unfold pyNext
 refine wpAny_bind (wpAny_attempt (wpAny_callSpecial?_slot (name:=Str.ofString "__next__") ty F.slot_dict_keyiterator_next (wpAny_call_entry F.slot_dict_keyiterator_next ty F.entry_dict_keyiterator_next ?_ (F.args_dict_keyiterator_next_1 _))))
 refine wpAny_bind (wpAny_pure (wpAny_bind (wpAny_bind ?_)))
 first | refine wpAny_bind (wpAny_typeNameOfWhole_keyiter ty (wpAny_pure ?_)) | refine wpAny_bind (wpAny_typeNameOf_keyiter ty (wpAny_pure ?_))
 refine wpAny_bind (wpAny_fieldsOf g dat ?_)
 simp only [(by decide:Builtin.Dict_items.ownsTuple "dict_keyiterator"=false),Bool.false_eq_true,if_false]
 (show wpAny _ _ (if (Value.ref d == Value.none)=true then _ else _) _ _ s; rw [if_neg (show ¬ ((Value.ref d == Value.none)=true) from Bool.false_ne_true)])
 refine wpAny_bind (wpAny_pure (wpAny_bind (wpAny_dictEntries gd dd ?_)))
 rw [if_neg (by simp)]
 refine wpAny_bind (wpAny_pure (wpAny_bind (wpAny_dictEpoch gd dd ?_)))
 (rw [if_neg (by simp)]; refine wpAny_pure ?_)
 cases he:es[i]? with
 | some e =>
  simp only [show ¬ ((i:Int) < 0) from by omega,if_false,Int.toNat_natCast,he]
  refine wpAny_bind ?_
  first | refine wpAny_bind (wpAny_typeNameOfWhole_keyiter ty (wpAny_pure ?_)) | refine wpAny_bind (wpAny_typeNameOf_keyiter ty (wpAny_pure ?_))
  refine wpAny_bind (wpAny_isOneOf_keyiter ty ?_)
  (show wpAny _ _ (setField (.ref it) 1 (rawInt ((i:Int) + 1)) >>= _) _ _ s; refine wpAny_bind (wpAny_setField g dat (by simp) ?_))
  have k':(s.heap.update it (Obj.mapFields (·.setIfInBounds 1 (rawInt ((i:Int) + 1))))).IsKeyIter it d (i + 1) es.size ep:=
   ⟨_,Heap.get?_update_self _ g (Obj.isFreed_of_fields (Obj.data_mapFields dat _)),(Obj.cls_mapFields ..).trans c,by rw [Obj.data_mapFields dat]; simp [rawInt]⟩
  refine wpAny_bind (wpAny_holding (wpAny_bind (wpAny_isOneOf_keyiter (s:={ s with heap:=s.heap.update it (Obj.mapFields (·.setIfInBounds 1 (rawInt ((i:Int) + 1)))) }) k'.typeIs ?_)))
  (show wpAny _ _ (pure e.key) _ _ _; exact wpAny_pure (wpAny_pure ⟨_,rfl,wpAny_pure (q1 _ _ he k' (Heap.SameBut.update ..))⟩))
 | none =>
  simp only [show ¬ ((i:Int) < 0) from by omega,if_false,Int.toNat_natCast,he]
  refine wpAny_bind ?_
  first | refine wpAny_bind (wpAny_typeNameOfWhole_keyiter ty (wpAny_pure ?_)) | refine wpAny_bind (wpAny_typeNameOf_keyiter ty (wpAny_pure ?_))
  (show wpAny _ _ (setField (.ref it) 0 .none >>= _) _ _ s; refine wpAny_bind (wpAny_setField g dat (by simp) ?_))
  (show wpAny _ _ (newExc (.type "StopIteration") [] >>= _) _ _ _; refine wpAny_bind ?_; simp only [newExc,newTuple])
  refine wpAny_bind (wpAny_newObj_type (wpAny_bind (m:=firstArgMember _ _) (wpAny_of_eq (a:=Value.none) (by first | rfl | (simp only [firstArgMember]; rfl)) (wpAny_newObj_type ?_ (by size_fits)))) (by size_fits))
  simp only [raiseNew]
  refine wpAny_bind (wpAny_handled ?_)
  (rw [show A.in1.handled=none from hh]; refine wpAny_bind (wpAny_pure (wpAny_throw ?_)))
  refine wpAny_bind (wpAny_isInstance (T:="StopIteration") (b:=true) ⟨_,Heap.get?_push_size _ rfl,rfl⟩ isSubtype_stop (wpAny_pure (q0 he _ ?_)))
  exact ((Heap.SameBut.update ..).extBut.push _).push _
theorem j2Z (hh:A.handled=none) (I d:Addr) (ne:d≠I) (es:Array DictEntry) (ep:Nat) :
  Walks prog w A I [I,d] [I] es.size (fun i v=>∃ e,es[i]?=some e/\v=e.key) (fun i h=>h.IsKeyIter I d i es.size ep/\RawD h d es ep) where
 sub:=fun b hb=>by rw [List.mem_singleton.mp hb]; exact List.mem_cons_self
 frame:=fun _ _ _ st hk=>⟨st.1.at fun o e=>hk I List.mem_cons_self o e,st.2.at' fun o e=>hk d (List.mem_cons_of_mem _ (List.mem_singleton.mpr rfl)) o e⟩
 item:=fun i s Q E hi st hQ=>by
  refine j0Q hh st.1 st.2 (fun e h' he k' sb=>?_) (fun e0=>?_)
  ·exact hQ _ h' s.toks ⟨e,he,rfl⟩ ⟨k',st.2.at' fun o g=>sb.extBut d o ne g⟩ fun b o hb g=>sb.extBut b o (fun z=>hb (by rw [z]; exact List.mem_singleton.mpr rfl)) g
  ·rw [Array.getElem?_eq_getElem hi] at e0
   cases e0
 done:=fun s Q E st hQ=>by
  refine j0Q hh st.1 st.2 (fun e h' he k' sb=>?_) (fun e0 h' eb=>?_)
  ·rw [Array.getElem?_eq_none (Nat.le_refl _)] at he
   cases he
  ·exact hQ h' s.toks fun b o hb g=>eb b o (fun z=>hb (by rw [z]; exact List.mem_singleton.mpr rfl)) g
 self:=fun _ _ _ _ st hQ=>wpAny_pyIter_keyiter st.1 hQ
theorem k8Z {d:Addr} {es:Array DictEntry} {ep:Nat} (lo:(d == sysModules)=false):W.KdlSrc prog w "dict" d d es.size (fun i v=>∃ e,es[i]?=some e/\v=e.key) (fun h=>RawD h d es ep) where
 type:=fun _ m=>m.typeIs
 there:=fun _ m=>⟨m.lt,m.lt⟩
 keep:=fun _ _ m hk=>m.at' fun o e=>hk d (.inl rfl) o e
 notList:=by decide
 notTuple:=by decide
 hint:=fun _ _ _ _ m hq=>W.kdl_hint_dict m.typeIs hq
 iter:=fun _ _ hh m=>⟨_,_,(fun _ _ hq=>t7Q lo m hq),j2Z hh _ d (Nat.ne_of_lt m.lt) es ep,⟨⟨_,Heap.get?_push_size _ rfl,rfl,rfl⟩,m.at' fun o e=>Heap.get?_push_of_some _ e⟩⟩
end
end L2
namespace L2
open PySem PySem.Spec PyProof.Rows
end L2
namespace L2
open PySem PySem.Spec PyProof.Rows
section
variable {X:Cx} {pins:List (Addr × Obj)} {σ:St} {H:Hp} {s:Shared} {a:Addr}
theorem Inv.redo {u u':HO} (I:Inv X pins σ H s) (ha:H a=some u) (nt:∀ xs,u ≠ .tup xs) (nb:∀ ps,u ≠ .tbl ps) (no:∀ y,u ≠ .own y) (nf:∀ o v,X.H₀ a≠some (.frz o v))
  (ok:tZ X.prog X.w (upd H a u') s.heap a u'):Inv X pins σ (upd H a u') s:=by
 have nn:∀ {b:Addr},H b=none->b≠a:=fun n e=>by rw [e,ha] at n; cases n
 refine ⟨I.ok,I.os,I.bare,⟨I.base.keep,I.base.slot,fun b ob e n hx=>?_,I.base.there,fun b xs e=>?_,fun b ob v e=>?_,fun b ps e=>?_⟩,I.loc,I.cell,?_,fun y c e=>?_,fun p q=>?_,fun b v e=>?_,I.len⟩
 ·have z:=I.base.free b ob e n hx
  rw [kQ (nn z)]
  exact z
 ·have z:=I.base.tups b xs e
  rw [kQ (fun e2=>by rw [e2,ha] at z; exact nt xs (Option.some.inj z))]
  exact z
 ·have z:=I.base.frzs b ob v e
  rw [kQ (fun e2=>nf ob v (by rw [<-e2]; exact e))]
  exact z
 ·obtain ⟨m,z⟩:=I.base.tbls b ps e
  refine ⟨m,?_⟩
  rw [kQ (fun e2=>by rw [e2,ha] at z; exact nb _ (Option.some.inj z))]
  exact z
 ·rw [kQ (nn I.free)]
  exact I.free
 ·rw [kQ (nn (I.freeC y c e))]
  exact I.freeC y c e
 ·obtain ⟨e,n,r⟩:=I.pin p q
  exact ⟨e,by rw [kQ (nn n)]; exact n,r⟩
 ·by_cases hb:b=a
  ·subst hb
   rw [dQ] at e
   cases e
   exact ok
  ·rw [kQ hb] at e
   exact (I.hok b v e).stay (fun c v _ q=>q) (fun c q=>by rw [kQ (fun e2=>by rw [e2,ha] at q; exact no _ (Option.some.inj q))]; exact q) fun c xs q=>by rw [kQ (fun e2=>by rw [e2,ha] at q; exact nt xs (Option.some.inj q))]; exact q
theorem Inv.unfrozen {u:HO} (I:Inv X pins σ H s) (ha:H a=some u) (nf:∀ o v,u ≠ .frz o v):∀ o v,X.H₀ a≠some (.frz o v):=fun o v e=>by
 have z:=I.base.frzs a o v e
 rw [ha] at z
 exact nf o v (Option.some.inj z)
theorem Inv.freeze {kvs:List (Key × V)} (I:Inv X pins σ H s) (ha:H a=some (.dK kvs)):∃ o,s.heap.get? a=some o/\Inv X pins σ (upd H a (.frz o (.dK kvs))) s:=by
 have ok:=I.hok a _ ha
 obtain ⟨z,hs,vs,rel,o,es,ep,h1,h2⟩:=j7Q I.hok ha
 refine ⟨o,h1,I.redo ha (fun _ e=>nomatch e) (fun _ e=>nomatch e) (fun _ e=>nomatch e) (I.unfrozen ha fun _ _ e=>nomatch e) ⟨h1,z,hs,vs,rel,o,es,ep,h1,h2⟩⟩
theorem Inv.thaw {kvs:List (Key × V)} {o:Obj} (I:Inv X pins σ H s) (ha:H a=some (.frz o (.dK kvs))) (nf:∀ o v,X.H₀ a≠some (.frz o v)):Inv X pins σ (upd H a (.dK kvs)) s:=by
 obtain ⟨h1,z,hs,vs,rel,o,es,ep,h2⟩:=(show tZ X.prog X.w H s.heap a (.frz o (.dK kvs)) from I.hok a _ ha)
 exact I.redo ha (fun _ e=>nomatch e) (fun _ e=>nomatch e) (fun _ e=>nomatch e) nf ⟨z,hs,vs,rel,o,es,ep,h2⟩
end
def Itd (d:Addr) (o:Obj) (kvs:List (Key × V)):It:=
 ⟨fun i H=>H d=some (.frz o (.dK kvs))/\i < kvs.length,fun i H x H'=>H'=H/\∃ kv,kvs[i]?=some kv/\x=kV kv.1,fun i H=>H d=some (.frz o (.dK kvs))/\kvs.length<=i⟩
theorem k2Z {P:Program} {w:World} {K:W.Frag} {tg:Expr} {es:Array DictEntry} {ep:Nat} {o:Obj} {kvs:List (Key × V)} (hd:o.data = .dict es ep) (d it:Addr):Turn P w K tg (Itd d o kvs) [it] it (fun i h=>h.IsKeyIter it d i kvs.length ep) where
 mem:=by simp
 obj:=fun i h st b hb=>by
  have e:b=it:=by simpa using hb
  subst e
  obtain ⟨o,e,c,d⟩:=st
  exact ⟨o,e,fun v z=>by rw [d] at z; cases z⟩
 keep:=fun i h h' ⟨o,e,r⟩ k=>⟨o,k it (by simp) o e,r⟩
 item:=by
  intro X hP hw hK hc i pins s σ H E I hf st hg
  subst hP hw hK
  obtain ⟨hH,hi⟩:=hg
  obtain ⟨h1,z,hs,vs,rel,o',es',ep',h2,h3,h4,h5⟩:=(show tZ X.prog X.w H s.heap d (.frz o (.dK kvs)) from I.hok d _ hH)
  rw [h1] at h2
  cases h2
  rw [hd] at h4
  cases h4
  have hl:=rel.length
  obtain ⟨f0,f1,f2,f3,f4,f5⟩:=hf it (by simp)
  have hv:i < vs.length:=by omega
  rw [hl] at st
  have D:s.heap.DictAt (fZ X.prog X.w) d vs ep:=⟨o,es,h1,h3,hd,h5⟩
  have ek:=congrArg (fun l:List Key=>l[i]?) rel.keys
  simp only [List.getElem?_map,List.getElem?_eq_getElem hi,List.getElem?_eq_getElem hv,Option.map_some] at ek
  refine wpAny_pyNext_dict_item (knd:=fZ X.prog X.w) (k:=vs[i].1) (v:=vs[i].2) st D (List.getElem?_eq_getElem hv) fun key h' hk st' sb=>?_
  have I1:Inv X pins σ H { s with heap:=h' }:=I.turned (t':=s.toks) (fun b o hb e=>(sb.2 b hb).trans e) f0 f1 f3 f4 f5
  obtain ⟨o2,e,c,dd⟩:=id st'
  exact ⟨key,rfl,m2Q (s:={ s with heap:=h' }) e c dd (by decide) ⟨kV kvs[i].1,H,I1,by rw [Option.some.inj ek]; exact r0Z hk,⟨rfl,kvs[i],List.getElem?_eq_getElem hi,rfl⟩,by rw [hl]; exact st',fun b hb=>(hf b hb).1⟩⟩
 done:=by
  intro X hP hw hK hc i pins s σ H E I hf st hg
  subst hP hw hK
  obtain ⟨hH,hi⟩:=hg
  obtain ⟨h1,z,hs,vs,rel,o',es',ep',h2,h3,h4,h5⟩:=(show tZ X.prog X.w H s.heap d (.frz o (.dK kvs)) from I.hok d _ hH)
  rw [h1] at h2
  cases h2
  rw [hd] at h4
  cases h4
  have hl:=rel.length
  obtain ⟨f0,f1,f2,f3,f4,f5⟩:=hf it (by simp)
  rw [hl] at st
  have D:s.heap.DictAt (fZ X.prog X.w) d vs ep:=⟨o,es,h1,h3,hd,h5⟩
  exact wpAny_pyNext_dict_end (I.ok.hd hc) st D (List.getElem?_eq_none (by omega)) fun h' eb=>⟨rfl,I.turned (t':=s.toks) (fun b o hb e=>eb b o hb e) f0 f1 f3 f4 f5⟩
 self:=fun _ _ _ _ _ st h=>wpAny_pyIter_keyiter st h
section
variable {X:Cx} {tg:Expr}
def b0X (td:TE):TI:=fun σ H R=>td σ H fun x H1=>∃ d kvs,x = .ref d/\H1 d=some (.dK kvs)/\∀ o,R (Itd d o kvs) (upd H1 d (.frz o (.dK kvs)))
theorem s0Z {l:Expr} {td:TE} (hl:PE X l td):PI X tg l (b0X td):=by
 intro pins s σ H R I h
 refine thn (hl pins s σ H _ I h) fun v s1 hh=>?_
 obtain ⟨x,H1,I1,r1,q1⟩:=hh
 obtain ⟨d,kvs,e,hd,q⟩:=q1
 subst e
 cases r1
 obtain ⟨o,ho,I2⟩:=I1.freeze hd
 obtain ⟨z,hs,vs,rel,o',es,ep,h1,h2,h3,h4⟩:=j7Q I1.hok hd
 rw [ho] at h1
 cases h1
 have hl:=rel.length
 refine wpAny_pyIter_dict (knd:=fZ X.prog X.w) (kvs:=vs) (ep:=ep) hs ⟨o,es,ho,h2,h3,h4⟩ ?_
 refine ⟨s1.heap.objs.size,[s1.heap.objs.size],_,_,_,rfl,I2.kept (t':=s1.toks) fun b o e=>Heap.get?_push_of_some _ e,k2Z h3 d _,⟨_,Heap.get?_push_size _ rfl,rfl,by rw [hl]; rfl⟩,fun b hb=>?_,q o⟩
 have e:b=s1.heap.objs.size:=by simpa using hb
 subst e
 exact I2.fpOk (Nat.le_refl _) (I2.hok.fresh (Nat.le_refl _))
def t2X (d:Addr) (kvs:List (Key × V)) (D:Ends):Ends:={ D with nx:=fun σ H=>∃ o,H d=some (.frz o (.dK kvs))/\D.nx σ (upd H d (.dK kvs)) }
theorem l8Z {st:Stmt} {t:TS} (h:PS X st t):PS X st (fun D σ H=>∃ d kvs,H d=some (.dK kvs)/\t (t2X d kvs D) σ H):=fun pins s σ H D I ⟨d,kvs,hd,ht⟩=>by
 have nf:=I.unfrozen hd fun _ _ e=>nomatch e
 refine thn (h pins s σ H _ I ht) fun f s' q=>?_
 cases f with
 | next =>
  obtain ⟨σ',H',I',o,e,n⟩:=q
  exact ⟨σ',_,I'.thaw e nf,n⟩
 | _=>exact q
end
end L2
namespace L2
open PySem PySem.Spec PyProof.Rows
theorem KV.at {κ:Type}:∀ {kvs:List (κ × V)} {vs:List (κ × Value)} {i:Nat} {kv:κ × V},KV kvs vs->kvs[i]?=some kv->∃ u,vs[i]?=some (kv.1,u)/\qZ kv.2 u
 | [],[],_,_,_,h=>by cases h
 | _ :: _,[],_,_,r,_=>by cases r
 | [],_ :: _,_,_,r,_=>by cases r
 | p :: _,(k,u) :: _,0,kv,.cons r t,h=>by
  have e:p=kv:=Option.some.inj h
  subst e
  refine ⟨u,?_,r.2⟩
  have e:p.1=k:=r.1
  rw [e]
  rfl
 | _ :: _,_ :: _,i + 1,kv,.cons r t,h=>KV.at (i:=i) t h
theorem z1Q:entryFor table "dict_itemiterator.__iter__"=some Builtin.«dict_keyiterator.__iter__»:=
 entryFor_alias (id':="dict_keyiterator.__iter__") (by kernel_rfl) rfl (by decide +kernel) (by kernel_rfl)
theorem l2Z {prog:Program} {w:World} {A:Around} {E:Value->Shared->Prop} {s:Shared} {it d:Addr} {i n ep:Nat} {ok ov:Value} {Q:Value->Shared->Prop} (hit:IsItemIter s.heap it d i n ep ok ov) (h:Q (.ref it) s):wpAny (model prog w) A (pyIter (.ref it)) Q E s:=by
 have ty:s.TypeIs (.ref it) "dict_itemiterator":=⟨_,hit,rfl⟩
 refine wpAny_pyIter_slot ty F.slot_dict_itemiterator_iter (wpAny_call_entry F.slot_dict_itemiterator_iter ty z1Q ?_ (F.args_dict_itemiterator_iter_1 _))
 show wpAny _ _ (ret (.ref it)) _ _ s
 exact wpAny_pure ⟨_,rfl,"dict_itemiterator",_,ty,F.slot_dict_itemiterator_next.lookup,h⟩
def Itp (d:Addr) (o:Obj) (kvs:List (Key × V)):It:=
 ⟨fun i H=>H d=some (.frz o (.dK kvs))/\i < kvs.length,fun i H x H'=>∃ T kv,kvs[i]?=some kv/\x = .ref T/\H T=none/\H'=upd H T (.tup [kV kv.1,kv.2]),fun i H=>H d=some (.frz o (.dK kvs))/\kvs.length<=i⟩
theorem q9Q {P:Program} {w:World} {K:W.Frag} {ts:List Expr} {kt:Nat} {tp:Pos} {es:Array DictEntry} {ep:Nat} {o:Obj} {kvs:List (Key × V)} (hd:o.data = .dict es ep) (d it:Addr):Turn P w K (.Tuple ts kt tp) (Itp d o kvs) [it] it (fun i h=>∃ ok ov,IsItemIter h it d i kvs.length ep ok ov) where
 mem:=by simp
 obj:=fun i h st b hb=>by
  have e:b=it:=by simpa using hb
  subst e
  obtain ⟨ok,ov,st⟩:=st
  exact ⟨_,st,fun v z=>by cases z⟩
 keep:=fun i h h' ⟨ok,ov,e⟩ k=>⟨ok,ov,k it (by simp) _ e⟩
 item:=by
  intro X hP hw hK hc i pins s σ H E I hf st hg
  subst hP hw hK
  obtain ⟨hH,hi⟩:=hg
  obtain ⟨h1,z,hs,vs,rel,o',es',ep',h2,h3,h4,h5⟩:=(show tZ X.prog X.w H s.heap d (.frz o (.dK kvs)) from I.hok d _ hH)
  rw [h1] at h2
  cases h2
  rw [hd] at h4
  cases h4
  have hl:=rel.length
  obtain ⟨ok,ov,st⟩:=st
  rw [hl] at st
  have D:s.heap.DictAt (fZ X.prog X.w) d vs ep:=⟨o,es,h1,h3,hd,h5⟩
  obtain ⟨u,hv,ru⟩:=rel.at (List.getElem?_eq_getElem hi)
  have ilt:it < s.heap.objs.size:=Heap.lt_size st
  refine wpAny_pyNext_items_item (knd:=fZ X.prog X.w) st D hv fun key h' hk a1 a3 a4 hkp=>?_
  refine ⟨_,rfl,wpAny_letOwnedTupleGo_items a1 fun h2' b1 hsb=>?_⟩
  have hT:H s.heap.objs.size=none:=I.hok.fresh (Nat.le_refl _)
  have I1:Inv X pins σ (upd H s.heap.objs.size (.tup [kV kvs[i].1,kvs[i].2])) { s with heap:=s.heap.push { cls:=.type "tuple",data:=.seq #[key,u] } }:=
   I.laid (t':=s.toks) (fun c o e=>Heap.get?_push_of_some _ e) (Nat.le_refl _) (show tZ X.prog X.w _ _ _ (.tup [kV kvs[i].1,kvs[i].2]) from ⟨(by show 2<=sizeLine; decide),[key,u],.cons (r0Z hk) (.cons ru .nil),_,Heap.get?_push_size _ rfl,rfl,_,rfl⟩)
  have hf1:∀ c∈[it],pO X pins (upd H s.heap.objs.size (.tup [kV kvs[i].1,kvs[i].2])) c:=fun c hc=>by
   have e:c=it:=by simpa using hc
   subst e
   exact ⟨by rw [kQ (Nat.ne_of_lt ilt)]; exact (hf c hc).1,(hf c hc).2⟩
  have kk:∀ c o,c∉[it]->(s.heap.push { cls:=.type "tuple",data:=.seq #[key,u] }).get? c=some o->h2'.get? c=some o:=fun c o nc eo=>by
   have n1:c≠it:=fun e=>nc (by rw [e]; simp)
   rcases Heap.get?_push_cases eo with ⟨rfl,rfl⟩ | e'
   ·exact (hsb.2 _ n1).trans a3
   ·exact (hsb.2 _ n1).trans (hkp c o n1 e')
  have I2:=I1.turnedL (t':=s.toks) (h':=h2') kk hf1
  exact ⟨.ref s.heap.objs.size,_,I2,rfl,⟨_,kvs[i],List.getElem?_eq_getElem hi,rfl,hT,rfl⟩,⟨key,u,by rw [hl]; exact b1⟩,fun c hc=>(hf1 c hc).1⟩
 done:=by
  intro X hP hw hK hc i pins s σ H E I hf st hg
  subst hP hw hK
  obtain ⟨hH,hi⟩:=hg
  obtain ⟨h1,z,hs,vs,rel,o',es',ep',h2,h3,h4,h5⟩:=(show tZ X.prog X.w H s.heap d (.frz o (.dK kvs)) from I.hok d _ hH)
  rw [h1] at h2
  cases h2
  rw [hd] at h4
  cases h4
  have hl:=rel.length
  obtain ⟨f0,f1,f2,f3,f4,f5⟩:=hf it (by simp)
  obtain ⟨ok,ov,st⟩:=st
  rw [hl] at st
  have D:s.heap.DictAt (fZ X.prog X.w) d vs ep:=⟨o,es,h1,h3,hd,h5⟩
  exact wpAny_pyNext_items_end (I.ok.hd hc) st D (List.getElem?_eq_none (by omega)) fun h' eb=>⟨rfl,I.turned (t':=s.toks) (fun b o hb e=>eb b o hb e) f0 f1 f3 f4 f5⟩
 self:=fun _ _ _ _ _ st h=>by
  obtain ⟨ok,ov,st⟩:=st
  exact l2Z st h
section
variable {X:Cx}
def j1X (td:TE):TI:=fun σ H R=>td σ H fun x H1=>∃ d kvs,x = .ref d/\H1 d=some (.dK kvs)/\∀ o,R (Itp d o kvs) (upd H1 d (.frz o (.dK kvs)))
theorem u7Q {ts:List Expr} {kt:Nat} {tp:Pos} {l:Expr} {td:TE} {apos pos:Pos} (hl:PE X l td) (hbase:attributeBase l "items" X.env (eval l X.env)=eval l X.env:=by rfl) (hline:(apos.endLine == pos.line)=true:=by rfl) :
  PI X (.Tuple ts kt tp) (.Call (.Attribute l "items" apos) [] [] pos) (j1X td):=by
 intro pins s σ H R I h
 refine wpAny_Call_method (T:="dict") (id:="dict.items") hbase rfl hline F.plainAttrs_dict F.slot_dict_items F.type_dict_items (thn (hl pins s σ H _ I h) fun v s1 hh=>?_)
 obtain ⟨x,H1,I1,r1,q1⟩:=hh
 obtain ⟨d,kvs,e,hd,q⟩:=q1
 subst e
 cases r1
 obtain ⟨o,ho,I2⟩:=I1.freeze hd
 obtain ⟨z,hs,vs,rel,hm⟩:=j7Q I1.hok hd
 obtain ⟨o',es,ep,h1,h2,h3,h4⟩:=id hm
 rw [ho] at h1
 cases h1
 have hl:=rel.length
 refine ⟨hm.typeIs,hm.mapOf.noDict,?_⟩
 show wpAny _ _ (callWith pos (.builtin "dict.items") [.ref d] [] []) _ _ s1
 refine method_meetsIn F.slot_dict_items F.entry_dict_items rfl (PyProof.Rows.evalArgs_none ⟨rfl,hm.typeIs,F.args_dict_items_1 _,_,meets_dict_items (fZ X.prog X.w) d hs,⟨vs,hm⟩,?_⟩)
 refine wpAny_pyIter_items (knd:=fZ X.prog X.w) (kvs:=vs) (ep:=ep) ⟨_,Heap.get?_push_size _ rfl,rfl,rfl⟩ ⟨o,es,Heap.get?_push_of_some _ ho,h2,h3,h4⟩ ?_
 have sz:(s1.heap.push { cls:=.type "dict_items",data:=.fields #[.ref d] }).objs.size=s1.heap.objs.size + 1:=by simp [Heap.push]
 refine ⟨_,[_],_,_,_,rfl,I2.kept (t':=s1.toks) fun b o e=>Heap.get?_push_of_some _ (Heap.get?_push_of_some _ e),q9Q h3 d _,⟨.none,.none,by rw [hl]; exact Heap.get?_push_size _ rfl⟩,fun b hb=>?_,q o⟩
 have e:b=_:=List.mem_singleton.mp hb
 have hle:s1.heap.objs.size<=b:=by rw [e,sz]; exact Nat.le_succ _
 exact I2.fpOk hle (I2.hok.fresh hle)
theorem g5Q {d:Addr} {o:Obj} {kvs:List (Key × V)} {g:TG} {tb:TS} {D:Ends} {σ:St} {H:Hp} (Pv:Nat->St->Hp->Prop) (h0:Pv 0 σ H) (hl:∀ i σ H,i<=kvs.length->Pv i σ H->H d=some (.frz o (.dK kvs)))
  (hs:∀ i kv σ H T,kvs[i]?=some kv->Pv i σ H->H T=none->g (.ref T) σ (upd H T (.tup [kV kv.1,kv.2])) fun σ2 H2=>tb { D with nx:=Pv (i + 1),ct:=Pv (i + 1),bk:=D.nx } σ2 H2) (hd:∀ σ H,Pv kvs.length σ H->D.nx σ H) :
  ∃ W:Nat->Nat->St->Hp->Prop,(∃ m,W 0 m σ H)/\∀ i m σ H,W i m σ H ->
   ((Itp d o kvs).stop i H/\D.nx σ H)\/((Itp d o kvs).go i H/\∃ N:St->Hp->Prop,(∀ σ' H',N σ' H'->∃ m',m' < m/\W (i + 1) m' σ' H')/\∀ x H',(Itp d o kvs).yld i H x H'->g x σ H' fun σ2 H2=>tb { D with nx:=N,ct:=N,bk:=D.nx } σ2 H2):=by
 refine ⟨fun i m σ H=>m=kvs.length - i/\i<=kvs.length/\Pv i σ H,⟨kvs.length,by simp,Nat.zero_le _,h0⟩,?_⟩
 rintro i m σ H ⟨rfl,hi,p⟩
 have q:=hl i σ H hi p
 by_cases hlt:i < kvs.length
 ·refine .inr ⟨⟨q,hlt⟩,Pv (i + 1),fun σ' H' p'=>⟨kvs.length - (i + 1),by omega,rfl,hlt,p'⟩,fun x H' y=>?_⟩
  obtain ⟨T,kv,hkv,rfl,hT,rfl⟩:=y
  exact hs i kv σ _ T hkv p hT
 ·have e:i=kvs.length:=by omega
  subst e
  exact .inl ⟨⟨q,Nat.le_refl _⟩,hd σ H p⟩
theorem t0Z {e:Expr} {t:TE} (h:PE X e t):PE X e (fun σ H Q=>∃ d kvs,H d=some (.dK kvs)/\t σ H fun v H'=>∃ o,H' d=some (.frz o (.dK kvs))/\Q v (upd H' d (.dK kvs))):=fun pins s σ H Q I ⟨d,kvs,hd,ht⟩=>by
 have nf:=I.unfrozen hd fun _ _ e=>nomatch e
 refine thn (h pins s σ H _ I ht) fun u s' hh=>?_
 obtain ⟨v,H',I',r,o,e,q⟩:=hh
 exact ⟨v,_,I'.thaw e nf,r,q⟩
end
end L2
namespace L2
open PySem PySem.Spec PyProof.Rows
abbrev NKey:=Key × List Key
section
variable {prog:Program} {w:World} {A:Around} {E:Value->Shared->Prop} {s:Shared}
def rY (prog:Program) (w:World) (h:Heap) (k:NKey) (a:Addr):Prop:=∃ o v b n,h.get? a=some o/\o.cls = .type "tuple"/\o.data = .seq #[v,.ref b] n/\(fZ prog w).is k.1 v=true/\IsTupleKey (fZ prog w) h k.2 b
theorem rY.typeIs {k:NKey} {a:Addr} (x:rY prog w s.heap k a):s.TypeIs (.ref a) "tuple":=let ⟨o,_,_,_,ho,hc,_⟩:=x; ⟨o,ho,hc⟩
theorem rY.inj {h:Heap} {a:Addr} {x y:NKey} (hx:rY prog w h x a) (hy:rY prog w h y a):x=y:=by
 obtain ⟨o,t,b,n,ho,_,hd,hv,hi⟩:=hx
 obtain ⟨o',t',b',n',ho',_,hd',hv',hi'⟩:=hy
 cases Option.some.inj (ho.symm.trans ho')
 rw [hd] at hd'
 injection hd' with e1 _
 have e2:[t,.ref b]=[t',Value.ref b']:=congrArg Array.toList e1
 injection e2 with e3 e4
 injection e4 with e6 _
 injection e6 with e7
 subst e7 e3
 exact Prod.ext ((fZ prog w).inj t _ _ hv hv') (hi.inj hi')
theorem rY.keeps {h h':Heap} {k:NKey} {a d:Addr} {o:Obj} {es:Array DictEntry} {ep:Nat} (x:rY prog w h k a) (ho:h.get? d=some o) (hd:o.data = .dict es ep) (hs:Heap.SameBut d h h'):rY prog w h' k a:=by
 obtain ⟨o',t,b,n,ho',hc,hd',hv,hi⟩:=x
 have hne:a≠d:=fun z=>by
  subst z
  cases Option.some.inj (ho'.symm.trans ho)
  rw [hd] at hd'
  cases hd'
 exact ⟨o',t,b,n,(hs.2 a hne).trans ho',hc,hd',hv,hi.keeps ho hd hs⟩
def r9Q (prog:Program) (w:World) (k:NKey):Int:=reduceHash (Builtin.Tuple.tupleHashOf [(fZ prog w).hash k.1,tupleKeyHash (fZ prog w) k.2])
theorem m2Z {k:NKey} {a:Addr} {Q:Int->Shared->Prop} (hu:A.units + 1 < cLine) (hk:rY prog w s.heap k a) (h:Q (r9Q prog w k) { s with toks:=s.toks + (k.2.length + 3) }):wpAny (model prog w) A (pyHash (.ref a)) Q E s:=by
 have tyT:=hk.typeIs
 obtain ⟨o,t,b,n,ho,_,hd,hv,hi⟩:=hk
 unfold pyHash; first | unfold pyHashByItsType | skip
 first | refine wpAny_bind (wpAny_cRoomFor_or (.inr (Nat.lt_of_succ_lt hu)) ?_) | skip
 refine wpAny_bind (wpAny_specialOf tyT F.slot_tuple_hash.lookup ?_)
 (show wpAny _ _ (if (some (Value.builtin "tuple.__hash__") == some Value.none)=true then _ else _) Q E s; rw [if_neg (by rw [beq_builtin_none]; exact Bool.false_ne_true)])
 refine wpAny_bind (wpAny_specialOf tyT F.slot_tuple_hash.lookup ?_)
 (show wpAny _ _ (callSpecialIfBoundUnlessNone? (.ref a) "__hash__" _ >>= _) Q E s; refine wpAny_bind (wpAny_callSpecialIfBoundUnlessNone?_slot tyT F.slot_tuple_hash (wpAny_call_entry F.slot_tuple_hash tyT F.entry_tuple_hash ?_ (F.args_tuple_hash_1 _))))
 (show wpAny _ _ (Builtin.Tuple.tupleItemsOf (.ref a) >>= _) _ _ s; refine wpAny_bind (wpAny_tupleItemsOf ho hd (wpAny_bind ?_)))
 rw [<-Array.forIn_toList]
 simp only [List.forIn_nil,List.forIn_cons]
 refine wpAny_bind (wpAny_bind ((fZ prog w).pyHash (k:=k.1) hv ?_))
 refine wpAny_pure (wpAny_bind (wpAny_bind (wpAny_pyHash_tuple (s:={ s with toks:=s.toks + 1 }) hu hi (wpAny_pure (wpAny_pure ?_)))))
 (show wpAny _ _ (retInt (Builtin.Tuple.tupleHashOf [(fZ prog w).hash k.1,tupleKeyHash (fZ prog w) k.2])) _ _ _; refine wpAny_ret_mkInt ?_)
 unfold r9Q reduceHash at h
 generalize Builtin.Tuple.tupleHashOf [(fZ prog w).hash k.1,tupleKeyHash (fZ prog w) k.2]=z at h ⊢
 have et:s.toks + 1 + (k.2.length + 1) + 1=s.toks + (k.2.length + 3):=by omega
 (show wpAny _ _ (if (decide (-(2:Int) ^ 63<=z) && decide (z < 2 ^ 63))=true then _ else _) Q E { s with toks:=s.toks + 1 + (k.2.length + 1) + 1 }; rw [et])
 by_cases hr:(decide (-(2:Int) ^ 63<=z) && decide (z < 2 ^ 63))=true
 ·rw [if_pos hr] at h ⊢
  exact wpAny_pure h
 ·rw [if_neg hr] at h ⊢
  exact (wpAny_bind (wpAny_rule (wpAny_pure h)))
theorem u2X {x y:NKey} {a b:Addr} {P:Fin->Shared->Prop} (hu:A.units < cLine) (hx:rY prog w s.heap x a) (hy:rY prog w s.heap y b) (h:P (.done (.ret (.bool (decide (x=y))))) s):wpAny (model prog w) A (Builtin.«tuple.__eq__» ⟨[.ref a,.ref b],[]⟩) P E s:=by
 have hTb:=hy.typeIs
 obtain ⟨oa,ta,ba,na,hoa,_,hda,hva,hia⟩:=hx
 obtain ⟨ob,tb,bb,nb,hob,_,hdb,hvb,hib⟩:=hy
 (show wpAny _ _ (isInstance (.ref b) (.type "tuple") >>= _) _ _ s; refine wpAny_bind (wpAny_isInstance hTb isSubtype_tuple_tuple ?_); simp only [Bool.false_eq_true,Bool.not_true,if_false])
 refine wpAny_bind (wpAny_tupleItemsOf hoa hda (wpAny_bind (wpAny_tupleItemsOf hob hdb (wpAny_bind ?_))))
 simp only [List.zip_cons_cons,List.zip_nil_right,List.forIn_cons,List.forIn_nil]
 refine wpAny_bind (wpAny_bind ((fZ prog w).eqBool (a:=x.1) (b:=y.1) hva hvb ?_))
 by_cases c1:x.1=y.1
 ·rw [decide_eq_true c1]
  simp only [Bool.false_eq_true,Bool.not_true,if_false]
  refine wpAny_pure (wpAny_bind (wpAny_bind (wpAny_eqBool_tuple hu hia hib ?_)))
  by_cases c2:x.2=y.2
  ·rw [decide_eq_true c2]
   simp only [Bool.false_eq_true,Bool.not_true,if_false]
   refine (wpAny_pure (wpAny_pure ?_))
   rw [decide_eq_true (Prod.ext c1 c2)] at h
   exact wpAny_pure h
  ·rw [decide_eq_false c2]
   simp only [if_true,Bool.not_false]
   rw [decide_eq_false (fun z=>c2 (by rw [z]))] at h
   exact wpAny_bind (wpAny_pure (wpAny_pure (wpAny_pure (wpAny_pure h))))
 ·rw [decide_eq_false c1]
  simp only [if_true,Bool.not_false]
  rw [decide_eq_false (fun z=>c1 (by rw [z]))] at h
  exact wpAny_bind (wpAny_pure (wpAny_pure (wpAny_pure (wpAny_pure h))))
theorem n2Z {x y:NKey} {a b:Addr} {Q:Bool->Shared->Prop} (hu:A.units + 1 < cLine) (hx:rY prog w s.heap x a) (hy:rY prog w s.heap y b) (h:Q (decide (x=y)) s):wpAny (model prog w) A (eqBool (.ref a) (.ref b)) Q E s:=by
 unfold eqBool; try with_reducible refine wpAny_holding ?_
 (show wpAny _ _ (if (Value.ref a == Value.ref b)=true then _ else _) Q E s)
 by_cases sab:(Value.ref a == Value.ref b)=true
 ·have e:a=b:=by
   have:=eq_of_beq sab
   injection this
  subst e
  cases hx.inj hy
  rw [if_pos sab]
  rw [decide_eq_true rfl] at h
  exact (wpAny_bind (wpAny_rule (wpAny_pure h)))
 ·rw [if_neg sab]
  exact wpAny_bind (wpAny_richCompare_same_room (op:=.Eq) hx.typeIs hy.typeIs F.slot_tuple_eq (wpAny_call_entry F.slot_tuple_eq hx.typeIs F.entry_tuple_eq (u2X (show A.in1.units < cLine from hu) hx hy ⟨_,rfl,(fun e=>nomatch e),wpAny_truthy_bool h⟩) (F.args_tuple_eq_2 _ _)) (Nat.lt_of_succ_lt hu))
theorem o2Z {ks:List Key} {a:Addr} {Q:Bool->Shared->Prop} (hk:IsTupleKey (fZ prog w) s.heap ks a) (h:Q true s):wpAny (model prog w) A (eqIsQuiet 7 (.ref a)) Q E s:=by
 have tyT:=hk.typeIs
 obtain ⟨o,its,n,ho,_,hd,hi⟩:=hk
 unfold eqIsQuiet
 refine wpAny_bind (wpAny_specialOf tyT F.slot_tuple_eq.lookup ?_)
 (show wpAny _ _ (isInstance (.ref a) (.type "tuple") >>= _) _ _ s; refine wpAny_bind (wpAny_isInstance tyT isSubtype_tuple_tuple ?_); simp only [Bool.false_eq_true,Bool.not_true,if_false])
 refine wpAny_bind (wpAny_seqItems ho hd (wpAny_bind ?_))
 (show wpAny _ _ (forIn its _ _) _ _ s; rw [<-Array.forIn_toList])
 refine wpAny_forIn_list _ (fun rest r s'=>(r.1=none/\s'=s)/\∀ v∈rest,carriedByValue v=true) _ ?_ ?_ _ _ ⟨⟨rfl,rfl⟩,hi.byValue⟩
 ·rintro v rest r s' ⟨⟨hr,rfl⟩,hall⟩
  rw [eqIsQuiet_byValue _ (hall v (List.mem_cons_self))]
  refine wpAny_bind (wpAny_pure ?_)
  simp only [Bool.false_eq_true,Bool.not_true,if_false]
  exact wpAny_pure ⟨⟨rfl,rfl⟩,fun u hu'=>hall u (List.mem_cons_of_mem _ hu')⟩
 ·rintro ⟨r1,r2⟩ s' ⟨⟨hr,rfl⟩,_⟩
  cases (show r1=none from hr)
  exact wpAny_pure h
theorem f5Z {k:NKey} {a:Addr} {Q:Bool->Shared->Prop} (hk:rY prog w s.heap k a) (h:Q true s):wpAny (model prog w) A (eqIsQuiet 8 (.ref a)) Q E s:=by
 have tyT:=hk.typeIs
 obtain ⟨o,t,b,n,ho,_,hd,hv,hi⟩:=hk
 unfold eqIsQuiet
 refine wpAny_bind (wpAny_specialOf tyT F.slot_tuple_eq.lookup ?_)
 (show wpAny _ _ (isInstance (.ref a) (.type "tuple") >>= _) _ _ s; refine wpAny_bind (wpAny_isInstance tyT isSubtype_tuple_tuple ?_); simp only [Bool.false_eq_true,Bool.not_true,if_false])
 refine wpAny_bind (wpAny_seqItems ho hd (wpAny_bind ?_))
 (show wpAny _ _ (forIn (#[t,.ref b]:Array Value) _ _) _ _ s; rw [<-Array.forIn_toList])
 simp only [List.forIn_nil,List.forIn_cons]
 rw [eqIsQuiet_byValue 7 ((fZ prog w).byValue _ _ hv)]
 refine (wpAny_bind (wpAny_bind (wpAny_pure ?_)))
 simp only [Bool.false_eq_true,Bool.not_true,if_false]
 refine wpAny_pure (wpAny_bind (wpAny_bind (o2Z hi ?_)))
 simp only [Bool.false_eq_true,Bool.not_true,if_false]
 exact wpAny_pure (wpAny_pure (wpAny_pure h))
def qK (prog:Program) (w:World):HeapKind prog w NKey where
 is:=rY prog w
 hash:=r9Q prog w
 draws:=fun k=>k.2.length + 3
 room:=fun A=>A.units + 1 < cLine
 inj:=fun hx hy=>hx.inj hy
 keeps:=fun x ho hd hs=>rY.keeps x ho hd hs
 pyHash:=fun hu hk h=>m2Z hu hk h
 eqBool:=fun hu hx hy h=>n2Z hu hx hy h
 quiet:=fun hk h=>f5Z hk h
end
def h5Q (P:Program) (w:World) (a:Addr) (xs:List (NKey × Addr × Value)) (h:Heap):Prop:=∃ o es ep,h.get? a=some o/\o.ExactDict/\o.data = .dict es ep/\es.toList=xs.map (entryOfKey (qK P w))
def PkO (P:Program) (w:World) (a:Addr) (xs:List (NKey × Addr × Value)):HO:=.ext (h5Q P w a xs)
def wY (H:Hp) (k:NKey) (p:Addr):Prop:=∃ b,H p=some (.tup [kV k.1,.ref b])/\H b=some (.tup (k.2.map kV))
abbrev NT (H:Hp):List (NKey × V)->List (NKey × Addr × Value)->Prop:=Paired fun p q=>p.1=q.1/\wY H q.1 q.2.1/\qZ p.2 q.2.2
def rX (P:Program) (w:World) (H:Hp) (d:Addr) (kvs:List (NKey × V)):Prop:=∃ xs:List (NKey × Addr × Value),NT H kvs xs/\H d=some (PkO P w d xs)/\(d == sysModules)=false/\(kvs.map (·.1)).Nodup/\kvs.length<=sizeLine
theorem wY.is {X:Cx} {pins:List (Addr × Obj)} {σ:St} {H:Hp} {s:Shared} {k:NKey} {p:Addr} (I:Inv X pins σ H s) (h:wY H k p):rY X.prog X.w s.heap k p:=by
 obtain ⟨b,h1,h2⟩:=h
 obtain ⟨_,us,ru,o,ho,hc,m,hd⟩:=(show tZ X.prog X.w H s.heap p (.tup [kV k.1,.ref b]) from I.hok p _ h1)
 obtain ⟨u1,u2,rfl,r1,r2⟩:=p2Q ru
 cases r2
 exact ⟨o,u1,b,m,ho,hc,hd,p1Q r1,c1Q I.hok h2⟩
theorem wY.tups {H H':Hp} {k:NKey} {p:Addr} (h:wY H k p) (t:∀ q xs,H q=some (.tup xs)->H' q=some (.tup xs)):wY H' k p:=by
 obtain ⟨b,h1,h2⟩:=h
 exact ⟨b,t _ _ h1,t _ _ h2⟩
theorem NT.keys {H:Hp} {kvs:List (NKey × V)} {xs:List (NKey × Addr × Value)} (r:NT H kvs xs):xs.map (·.1)=kvs.map (·.1):=by
 induction r with
 | nil=>rfl
 | @cons p q ps qs h t ih=>rw [List.map_cons,List.map_cons,ih,h.1]
theorem NT.val {H:Hp} {kvs:List (NKey × V)} {xs:List (NKey × Addr × Value)} (r:NT H kvs xs) (k:NKey):sY (vZ kvs k) ((atKey xs k).map (·.2)):=by
 induction r with
 | nil=>exact True.intro
 | @cons p q ps qs h t ih =>
  obtain ⟨h1,_,h2⟩:=h
  by_cases e:p.1=k
  ·have e':q.1=k:=h1.symm.trans e
   have b:atKey (q :: qs) k=some q.2:=by simp [atKey,List.find?_cons,e']
   rw [uX e,b]; exact h2
  ·have e':¬ q.1=k:=fun z=>e (h1.trans z)
   have b:atKey (q :: qs) k=atKey qs k:=by simp [atKey,List.find?_cons,e']
   rw [vX e,b]; exact ih
theorem NT.repl {H:Hp} {kvs:List (NKey × V)} {xs:List (NKey × Addr × Value)} (r:NT H kvs xs) (k:NKey) {y:V} {u:Value} (ry:qZ y u) :
  NT H (kvs.map fun kv=>if kv.1=k then (kv.1,y) else kv) (xs.map (putAt k u)):=by
 induction r with
 | nil=>exact .nil
 | @cons p q ps qs h t ih =>
  rw [List.map_cons,List.map_cons]
  refine .cons ?_ ih
  obtain ⟨h1,h2,h3⟩:=h
  unfold putAt
  by_cases e:p.1=k
  ·rw [if_pos e,if_pos (h1.symm.trans e)]; exact ⟨h1,h2,ry⟩
  ·rw [if_neg e,if_neg (fun z=>e (h1.trans z))]; exact ⟨h1,h2,h3⟩
theorem NT.put {H:Hp} {kvs:List (NKey × V)} {xs:List (NKey × Addr × Value)} (r:NT H kvs xs) (k:NKey) {b:Addr} {y:V} {u:Value} (hb:wY H k b) (ry:qZ y u) :
  NT H (dX kvs k y) (storedH xs k b u):=by
 have e:(kvs.any fun kv=>decide (kv.1=k))=(atKey xs k).isSome:=by
  rw [xJ,(r.val k).isSome_eq,Option.isSome_map]
 unfold dX storedH
 rw [e]
 by_cases q:(atKey xs k).isSome=true
 ·rw [if_pos q,if_pos q]; exact r.repl k ry
 ·rw [if_neg q,if_neg q]; exact Paired.snoc r ⟨rfl,hb,ry⟩
theorem NT.keeps {H H':Hp} {kvs:List (NKey × V)} {xs:List (NKey × Addr × Value)} (r:NT H kvs xs) (ht:∀ b ys,H b=some (.tup ys)->H' b=some (.tup ys)):NT H' kvs xs:=
 Paired.mapP r fun _ _ z=>⟨z.1,z.2.1.tups ht,z.2.2⟩
theorem rX.keep {P:Program} {w:World} {H H':Hp} {d:Addr} {kvs:List (NKey × V)} (h:rX P w H d kvs) (hd:∀ o,H d=some o->H' d=some o) (t:∀ q xs,H q=some (.tup xs)->H' q=some (.tup xs)):rX P w H' d kvs:=by
 obtain ⟨xs,h1,h2,h3⟩:=h
 exact ⟨xs,h1.keeps t,hd _ h2,h3⟩
theorem rX.same {P:Program} {w:World} {H H':Hp} {d:Addr} {kvs:List (NKey × V)} (h:rX P w H d kvs) (s:iQ H H'):rX P w H' d kvs:=h.keep (fun o e=>s _ _ e) fun q xs e=>s _ _ e
theorem rX.there {P:Program} {w:World} {H:Hp} {d:Addr} {kvs:List (NKey × V)} (h:rX P w H d kvs):∃ φ,H d=some (.ext φ):=by
 obtain ⟨xs,_,h2,_⟩:=h
 exact ⟨_,h2⟩
theorem rX.dict {X:Cx} {pins:List (Addr × Obj)} {σ:St} {H:Hp} {s:Shared} {d:Addr} {kvs:List (NKey × V)} (I:Inv X pins σ H s) (h:rX X.prog X.w H d kvs):∃ xs:List (NKey × Addr × Value),NT H kvs xs/\H d=some (PkO X.prog X.w d xs)/\s.heap.DictOfH (qK X.prog X.w) d xs/\(d == sysModules)=false/\kvs.length<=sizeLine:=by
 obtain ⟨xs,rel,hd,hs,hn,hz⟩:=h
 obtain ⟨⟨o,es,ep,h1,h2,h3,h4⟩,_⟩:=(show tZ X.prog X.w H s.heap d (.ext (h5Q X.prog X.w d xs)) from I.hok d _ hd)
 have key:∀ {kvs:List (NKey × V)} {xs:List (NKey × Addr × Value)},NT H kvs xs->∀ x∈xs,wY H x.1 x.2.1:=by
  intro kvs xs r
  induction r with
  | nil=>exact fun x hx=>nomatch hx
  | @cons p q ps qs h t ih =>
   intro x hx
   rcases List.mem_cons.mp hx with rfl | hx
   ·exact h.2.1
   ·exact ih x hx
 exact ⟨xs,rel,hd,⟨o,es,ep,h1,h2,h3,h4,fun x hx=>(key rel x hx).is I,by rw [rel.keys]; exact hn⟩,hs,hz⟩
theorem v7Q {P:Program} {w:World} {H:Hp} {h:Heap} {a:Addr} {xs:List (NKey × Addr × Value)} (x:h5Q P w a xs h):tZ P w H h a (PkO P w a xs):=by
 refine ⟨x,let ⟨o,_,_,h1,_⟩:=x; ⟨o,h1⟩,fun h1 h2 p k=>?_⟩
 obtain ⟨o,es,ep,e1,e2⟩:=p
 exact ⟨o,es,ep,k o e1,e2⟩
def k1X (P:Program) (w:World):TE:=fun _ H Q=>∀ p,H p=none->(p == sysModules)=false->Q (.ref p) (upd H p (PkO P w p []))
theorem k0Q {X:Cx} {pos:Pos}:PE X (.Dict [] [] pos) (k1X X.prog X.w):=by
 intro pins s σ H Q I h
 have nb:(s.heap.objs.size == sysModules)=false:=beq_eq_false_iff_ne.mpr (Ne.symm (Nat.ne_of_lt I.big))
 exact wpAny_Dict_empty ⟨.ref s.heap.objs.size,_,I.laid (a:=s.heap.objs.size) (o:=PkO X.prog X.w s.heap.objs.size []) (t':=s.toks) (fun _ _ q=>Heap.get?_push_of_some _ q) (Nat.le_refl _) (v7Q ⟨_,#[],0,Heap.get?_push_size _ rfl,⟨rfl,rfl,rfl⟩,rfl,rfl⟩),rfl,h _ (I.hok.fresh (Nat.le_refl _)) nb⟩
theorem rX.new {P:Program} {w:World} {H:Hp} {p:Addr} (h:(p == sysModules)=false):rX P w (upd H p (PkO P w p [])) p []:=⟨[],.nil,dQ,h,List.nodup_nil,Nat.zero_le _⟩
def NkRd (P:Program) (w:World) (H:Hp) (d:Addr) (kvs:List (NKey × V)):Prop:=∃ xs:List (NKey × Addr × Value),NT H kvs xs/\Rd H d (PkO P w d xs)/\(d == sysModules)=false/\(kvs.map (·.1)).Nodup/\kvs.length<=sizeLine
theorem rX.rd {P:Program} {w:World} {H:Hp} {d:Addr} {kvs:List (NKey × V)} (h:rX P w H d kvs):NkRd P w H d kvs:=by
 obtain ⟨xs,h1,h2,h3⟩:=h
 exact ⟨xs,h1,.inl h2,h3⟩
theorem NkRd.dict {X:Cx} {pins:List (Addr × Obj)} {σ:St} {H:Hp} {s:Shared} {d:Addr} {kvs:List (NKey × V)} (I:Inv X pins σ H s) (h:NkRd X.prog X.w H d kvs):∃ xs:List (NKey × Addr × Value),NT H kvs xs/\s.heap.DictOfH (qK X.prog X.w) d xs/\(d == sysModules)=false:=by
 obtain ⟨xs,rel,hd,hs,hn,hz⟩:=h
 obtain ⟨⟨o,es,ep,h1,h2,h3,h4⟩,_⟩:=(show tZ X.prog X.w H s.heap d (.ext (h5Q X.prog X.w d xs)) from i4Z I.hok hd)
 have key:∀ {kvs:List (NKey × V)} {xs:List (NKey × Addr × Value)},NT H kvs xs->∀ x∈xs,wY H x.1 x.2.1:=by
  intro kvs xs r
  induction r with
  | nil=>exact fun x hx=>nomatch hx
  | @cons p q ps qs h t ih =>
   intro x hx
   rcases List.mem_cons.mp hx with rfl | hx
   ·exact h.2.1
   ·exact ih x hx
 exact ⟨xs,rel,⟨o,es,ep,h1,h2,h3,h4,fun x hx=>(key rel x hx).is I,by rw [rel.keys]; exact hn⟩,hs⟩
def rInN (P:Program) (w:World) (neg:Bool):R2:=fun x y H Q=>∃ p d k kvs,x = .ref p/\y = .ref d/\wY H k p/\NkRd P w H d kvs/\Q (.bl (if neg then !(vZ kvs k).isSome else (vZ kvs k).isSome)) H
theorem l1X {X:Cx} (hu:X.A.units + 2 < cLine):OpR X (compareOp .In) (rInN X.prog X.w false):=by
 intro pins s σ H x y v u Q I rx ry h
 obtain ⟨p,d,k,kvs,rfl,rfl,hk,hd,q⟩:=h
 cases rx
 cases ry
 obtain ⟨xs,rel,dd,hs⟩:=hd.dict I
 refine wpAny_in_heap (knd:=qK X.prog X.w) (show X.A.in1.units + 1 < cLine from hu) (hk.is I) hs dd ?_
 refine ⟨.bl (vZ kvs k).isSome,H,I.tok _,?_,q⟩
 have e:=(rel.val k).isSome_eq
 rw [Option.isSome_map] at e
 rw [e]
 rfl
def c0X (P:Program) (w:World) (td ty:TE):TE:=fun σ H Q=>td σ H fun x H1=>ty σ H1 fun y H2=>∃ d p k kvs v,x = .ref d/\y = .ref p/\wY H2 k p/\NkRd P w H2 d kvs/\vZ kvs k=some v/\Q v H2
theorem g6Q {X:Cx} {o i:Expr} {td ty:TE} {pos:Pos} (hu:X.A.units + 2 < cLine) (ho:PE X o td) (hi:PE X i ty) (hs:NoSl i):PE X (.Subscript o i pos) (c0X X.prog X.w td ty):=by
 intro pins s σ H Q I h
 refine k0Z PySem.F.slot_dict_getitem.lookup hs (thn (ho pins s σ H _ I h) fun u s1 ⟨x,H1,I1,rx,q1⟩=>thn (hi pins s1 σ H1 _ I1 q1) fun iv s2 ⟨y,H2,I2,ry,d,p,k,kvs,v,ex,ey,hk,hd,hv,q2⟩=>?_)
 subst ex ey
 obtain rfl:u=Value.ref d:=rx
 obtain rfl:iv=Value.ref p:=ry
 obtain ⟨xs,rel,dd,hsm⟩:=hd.dict I2
 obtain ⟨w',hw,rw'⟩:=sY.some_of (v:=v) (o:=(atKey xs k).map (·.2)) (by rw [<-hv]; exact rel.val k)
 obtain ⟨pp,hp,hp2⟩:=Option.map_eq_some_iff.mp hw
 refine ⟨dd.typeIs,wpAny_getItem_heap (knd:=qK X.prog X.w) (show X.A.in1.units + 1 < cLine from hu) (hk.is I2) dd hp ?_⟩
 rw [hp2]
 exact ⟨v,H2,I2.tok _,rw',q2⟩
def v2X (P:Program) (w:World) (td ty tv:TE):TS:=fun D σ H=>tv σ H fun v H1=>td σ H1 fun x H2=>ty σ H2 fun y H3=>∃ d p k kvs,x = .ref d/\y = .ref p/\wY H3 k p/\rX P w H3 d kvs/\kvs.length < sizeLine/\∀ H',(∀ b,b≠d->H' b=H3 b)->rX P w H' d (dX kvs k v)->D.nx σ H'
theorem g2Q {X:Cx} {o i value:Expr} {td ty tv:TE} {pos pos':Pos} (hu:X.A.units + 2 < cLine) (ho:PE X o td) (hi:PE X i ty) (hv:PE X value tv) (hs:swapsWith value (some (.Subscript o i pos')) pos.line X.env=pure false) :
  PS X (.Assign [.Subscript o i pos'] value pos) (v2X X.prog X.w td ty tv):=by
 intro pins s σ H D I h
 refine wpAny_Assign_Subscript (thn (hv pins s σ H _ I h) fun r s1 ⟨v,H1,I1,rv,q1⟩=>thn (ho pins s1 σ H1 _ I1 q1) fun u s2 ⟨x,H2,I2,rx,q2⟩=>thn (hi pins s2 σ H2 _ I2 q2) fun iv s3 ⟨y,H3,I3,ry,d,p,k,kvs,ex,ey,hk,hd,hz,q3⟩=>?_) hs
 subst ex ey
 obtain rfl:u=Value.ref d:=rx
 obtain rfl:iv=Value.ref p:=ry
 obtain ⟨xs,rel,hH,dd,hsm,_⟩:=hd.dict I3
 obtain ⟨_,_,_,_,hnd,_⟩:=hd
 have hlen:xs.length<=sizeLine:=by
  have:=congrArg List.length rel.keys
  rw [List.length_map,List.length_map] at this
  omega
 refine wpAny_setItem_heap (knd:=qK X.prog X.w) (show X.A.in1.units + 1 < cLine from hu) (hk.is I3) dd (fun h' hm hsb=>?_) hlen
 obtain ⟨o',es',ep',g1,g2,g3,g4,g5,g6⟩:=hm
 have tu:∀ q zs,H3 q=some (.tup zs)->(upd H3 d (PkO X.prog X.w d (storedH xs k p r))) q=some (.tup zs):=fun q zs e1=>by
  rw [kQ (fun e2=>by rw [e2,hH] at e1; cases e1)]
  exact e1
 have rel2:=(rel.put k hk rv).keeps tu
 refine ⟨σ,_,c2Q (t':=s3.toks + (qK X.prog X.w).draws k) (ob:=PkO X.prog X.w d (storedH xs k p r)) I3 (by rw [hH]; exact trivial) hsb ⟨o',g1⟩ (v7Q ⟨o',es',ep',g1,g2,g3,g4⟩),?_⟩
 refine q3 _ (fun b nb=>kQ nb) ⟨_,rel2,dQ,hsm,by rw [<-rel2.keys]; exact g6,?_⟩
 have:=fV kvs k v
 omega
end L2
namespace L2
open PySem PySem.Spec PyProof.Rows
section
variable {X:Cx} {D:St->Prop} {a b e:Expr} {es:List Expr} {pos p:Pos}
theorem h2Q {n:Nat} (h:n<=100000):n<=sizeLine:=by rw [sizeLine_eq]; omega
end
end L2
namespace L2
open PySem PySem.Spec PyProof.Rows
def Itv (K:W.Frag) (a:Addr) (n:Nat):It:=
 ⟨fun i H=>∃ xs x,SqL K H a xs/\xs.length=n/\xs.reverse[i]?=some x,fun i H x H'=>H'=H/\∀ xs,SqL K H a xs->xs.reverse[i]?=some x,fun i H=>∃ xs,SqL K H a xs/\xs.length=n/\n=i⟩
theorem g5Z {P:Program} {w:World} {K:W.Frag} {tg:Expr} (a it:Addr) (n:Nat):Turn P w K tg (Itv K a n) [it] it (fun i h=>h.IsRevIter it a ((n:Int) - 1 - (i:Nat))) where
 mem:=by simp
 obj:=fun i h st b hb=>by
  have e:b=it:=by simpa using hb
  subst e
  obtain ⟨o,e,c,d⟩:=st
  exact ⟨o,e,fun v z=>by rw [d] at z; cases z⟩
 keep:=fun i h h' st k=>st.at fun o e=>k it (by simp) o e
 item:=by
  intro X hP hw hK hc i pins s σ H E I hf st hg
  subst hP hw hK
  obtain ⟨xs,x,hq,hn,hx⟩:=hg
  have hi:i < xs.length:=by have:=(List.getElem?_eq_some_iff.mp hx).1; rwa [List.length_reverse] at this
  have hx':=hx
  rw [List.getElem?_reverse hi] at hx
  obtain ⟨its,rv,p,hz⟩:=I.list hq
  obtain ⟨u,hu,ru⟩:=rv.get hx
  obtain ⟨f0,f1,f2,f3,f4,f5⟩:=hf it (by simp)
  have e1:(n:Int) - 1 - (i:Nat)=((xs.length - 1 - i:Nat):Int):=by omega
  rw [e1] at st
  refine wpAny_pyNext_rev_item st p.isList (x:=u) (by simpa using hu) fun h' st' sb=>?_
  have I1:Inv X pins σ H { s with heap:=h' }:=I.turned (t':=s.toks) (fun b o hb e=>(sb.2 b hb).trans e) f0 f1 f3 f4 f5
  have e2:((xs.length - 1 - i:Nat):Int) - 1=(n:Int) - 1 - ((i + 1:Nat):Int):=by omega
  rw [e2] at st'
  obtain ⟨o,e,c,d⟩:=id st'
  exact ⟨u,rfl,m2Q (s:={ s with heap:=h' }) e c d (by decide) ⟨x,H,I1,ru,⟨rfl,fun ys hy=>by rw [I.list_inj hy hq]; exact hx'⟩,st',fun b hb=>(hf b hb).1⟩⟩
 done:=by
  intro X hP hw hK hc i pins s σ H E I hf st hg
  subst hP hw hK
  obtain ⟨xs,hq,hn,hx⟩:=hg
  obtain ⟨f0,f1,f2,f3,f4,f5⟩:=hf it (by simp)
  have e1:(n:Int) - 1 - (i:Nat) = -1:=by omega
  rw [e1] at st
  exact wpAny_pyNext_rev_end (I.ok.hd hc) st fun h' eb=>⟨rfl,I.turned (t':=s.toks) (fun b o hb e=>eb b o hb e) f0 f1 f3 f4 f5⟩
 self:=fun _ _ _ _ _ st h=>wpAny_pyIter_revIter st h
def iRev (K:W.Frag) (te:TE):TI:=fun σ H R=>te σ H fun x H1=>∃ a xs,x = .ref a/\SqL K H1 a xs/\R (Itv K a xs.length) H1
theorem h5Z {X:Cx} {tg e:Expr} {te:TE} {p pos:Pos} (hg:Gl X "reversed") (hm:X.mg "reversed"=none) (he:PE X e te) (hs:starEach [e] X.env=[(false,eval e X.env)]:=by rfl):PI X tg (.Call (.Name "reversed" p) [e] [] pos) (iRev X.K te):=by
 intro pins s σ H R I h
 refine Call_ (wV I hg hm s7Q (PyProof.Rows.callWith_type1 ?_ (by rw [hs]; rfl) (by rfl)))
 rw [hs]
 (show wpAny _ _ (spliced [(false,eval e X.env)]) _ _ s; refine Calls.spliced_cons ?_)
 refine thn (he pins s σ H _ I h) fun u s1 ⟨x,H1,I1,r1,a,xs,ex,hq,q⟩=>Calls.spliced_nil ?_
 subst ex
 cases r1
 obtain ⟨its,rv,pl,hz⟩:=I1.list hq
 refine call_reversed_list pl.isList ?_
 refine wpAny_pyIter_revIter ⟨_,Heap.get?_push_size _ rfl,rfl,rfl⟩ ?_
 have hl:=rv.length
 have e1:((its.toArray.size:Int) - 1)=(xs.length:Int) - 1 - ((0:Nat):Int):=by rw [List.size_toArray]; omega
 refine ⟨s1.heap.objs.size,[s1.heap.objs.size],_,_,H1,rfl,I1.kept (t':=s1.toks) fun b o e=>Heap.get?_push_of_some _ e,g5Z a _ xs.length,⟨_,Heap.get?_push_size _ rfl,rfl,by rw [<-e1]; rfl⟩,fun b hb=>?_,q⟩
 have e:b=s1.heap.objs.size:=by simpa using hb
 subst e
 exact I1.fpOk (Nat.le_refl _) (I1.hok.fresh (Nat.le_refl _))
theorem m8Z {K:W.Frag} {a:Addr} {xs:List V} {g:TG} {tb:TS} {D:Ends} {σ:St} {H:Hp} (Pv:Nat->St->Hp->Prop) (h0:Pv 0 σ H) (hl:∀ i σ H,i<=xs.length->Pv i σ H->SqL K H a xs)
  (hs:∀ i x σ H,xs.reverse[i]?=some x->Pv i σ H->g x σ H fun σ2 H2=>tb { D with nx:=Pv (i + 1),ct:=Pv (i + 1),bk:=D.nx } σ2 H2) (hd:∀ σ H,Pv xs.length σ H->D.nx σ H) :
  ∃ W:Nat->Nat->St->Hp->Prop,(∃ m,W 0 m σ H)/\∀ i m σ H,W i m σ H ->
   ((Itv K a xs.length).stop i H/\D.nx σ H)\/((Itv K a xs.length).go i H/\∃ N:St->Hp->Prop,(∀ σ' H',N σ' H'->∃ m',m' < m/\W (i + 1) m' σ' H')/\∀ x H',(Itv K a xs.length).yld i H x H'->g x σ H' fun σ2 H2=>tb { D with nx:=N,ct:=N,bk:=D.nx } σ2 H2):=by
 refine ⟨fun i m σ H=>m=xs.length - i/\i<=xs.length/\Pv i σ H,⟨xs.length,by simp,Nat.zero_le _,h0⟩,?_⟩
 rintro i m σ H ⟨rfl,hi,p⟩
 have q:=hl i σ H hi p
 by_cases hlt:i < xs.length
 ·refine .inr ⟨⟨xs,xs.reverse[i]'(by rw [List.length_reverse]; exact hlt),q,rfl,by simp [hlt]⟩,Pv (i + 1),fun σ' H' p'=>⟨xs.length - (i + 1),by omega,rfl,hlt,p'⟩,fun x H' y=>?_⟩
  obtain ⟨e,y⟩:=y
  subst e
  exact hs i x σ _ (y xs q) p
 ·have e:i=xs.length:=by omega
  subst e
  exact .inl ⟨⟨xs,q,rfl,rfl⟩,hd σ H p⟩
section
variable {K:W.Frag} {a D:Addr} {xs:List V} {g:TG} {tt:TT} {te:TE} {Q:VK} {σ0:St} {H0:Hp}
theorem m1X (Pv:Nat->List V->St->Hp->Prop) (h0:Pv 0 [] σ0 H0) (hl:∀ i ys σ H,i<=xs.length->Pv i ys σ H->SqL K H a xs)
  (hs:∀ i x ys σ H,xs.reverse[i]?=some x->Pv i ys σ H->g x σ H fun σ3 H3=>tt σ3 H3 fun b H4=>if b=true then te σ3 H4 fun y H5=>H5 D=some (.lst ys)/\ys.length < sizeLine/\Pv (i + 1) (ys++[y]) σ3 (upd H5 D (.lst (ys++[y]))) else Pv (i + 1) ys σ3 H4)
  (hd:∀ ys σ H,Pv xs.length ys σ H->Q (.ref D) H) :
  LcW (Itv K a xs.length) D g tt te Q σ0 H0:=by
 refine ⟨fun i m ys σ H=>m=xs.length - i/\i<=xs.length/\Pv i ys σ H,⟨xs.length,by simp,Nat.zero_le _,h0⟩,?_⟩
 rintro i m ys σ H ⟨rfl,hi,p⟩
 have q:=hl i ys σ H hi p
 by_cases hlt:i < xs.length
 ·refine .inr ⟨⟨xs,xs.reverse[i]'(by rw [List.length_reverse]; exact hlt),q,rfl,by simp [hlt]⟩,fun ys' σ' H'=>Pv (i + 1) ys' σ' H',fun ys' σ' H' p'=>⟨xs.length - (i + 1),by omega,rfl,hlt,p'⟩,fun x H' y=>?_⟩
  obtain ⟨e,y⟩:=y
  subst e
  exact hs i x ys σ _ (y xs q) p
 ·have e:i=xs.length:=by omega
  subst e
  exact .inl ⟨⟨xs,q,rfl,rfl⟩,hd ys σ H p⟩
end
end L2
namespace L2
open PySem PySem.Spec PyProof.Rows
def Dcd (H:Hp):Nat->V->V->Bool->Prop
 | 0,_,_,_=>False
 | n + 1,x,y,b=>(x=y/\Pl x/\b=true)\/(∃ (a c:Addr) (xs ys:List V) (e:Nat->Bool),x = .ref a/\y = .ref c/\a≠c/\((H a=some (.tup xs)/\H c=some (.tup ys))\/(H a=some (.lst xs)/\H c=some (.lst ys)))/\xs.length=ys.length/\b=(List.range xs.length).all e/\∀ (i:Nat) (u v:V),xs[i]?=some u->ys[i]?=some v->Dcd H n u v (e i)) \/
  ∃ (a c:Addr) (xs ys:List V),x = .ref a/\y = .ref c/\a≠c/\H a=some (.lst xs)/\H c=some (.lst ys)/\xs.length≠ys.length/\b=false
section
variable {X:Cx} {pins:List (Addr × Obj)} {σ:St} {H:Hp} {s:Shared}
theorem l0Q (I:Inv X pins σ H s):∀ (n:Nat) (A:Around) (x y:V) (b:Bool) (v u:Value),A.units + n < cLine->Dcd H n x y b->qZ x v->qZ y u->SeqAt.EqAt A s v u b
 | 0,_,_,_,_,_,_,_,h,_,_=>h.elim
 | n + 1,A,x,y,b,v,u,hu,h,rx,ry=>by
  have hu1:A.in1.units + n < cLine:=by
   have:A.in1.units=A.units + 1:=rfl
   omega
  rcases h with ⟨rfl,hp,rfl⟩ | ⟨a,c,xs,ys,e,rfl,rfl,hac,hab,hl,rfl,hall⟩ | ⟨a,c,xs,ys,rfl,rfl,hac,h1,h2,hl,rfl⟩
  ·rcases hp with hp | ⟨a,rfl⟩
   ·have:=h9Q (A:=A) (s:=s) rx ry hp hp
    rwa [r7Q hp] at this
   ·cases rx
    cases ry
    exact SeqAt.EqAt.same _
  ·cases rx
   cases ry
   refine SeqAt.EqAt.of_refs hac ?_
   rcases hab with ⟨h1,h2⟩ | ⟨h1,h2⟩
   ·obtain ⟨us,ru,pu⟩:=qY I h1
    obtain ⟨ws,rw',pw⟩:=qY I h2
    have l1:=ru.length
    have l2:=rw'.length
    have:=SeqAt.RcAt.tuples (e:=e) pu pw (by omega) (yJ (R:=fun _ _ _=>True) ru rw' fun i x y u w e1 e2 r1 r2=>l0Q I n A.in1 x y (e i) u w hu1 (hall i x y e1 e2) r1 r2)
    rwa [show ((List.range (min us.toArray.size ws.toArray.size)).all e && us.toArray.size == ws.toArray.size)=(List.range xs.length).all e from by
     have e1:us.toArray.size=xs.length:=by rw [List.size_toArray]; omega
     have e2:ws.toArray.size=xs.length:=by rw [List.size_toArray]; omega
     rw [e1,e2,Nat.min_self,beq_self_eq_true,Bool.and_true]] at this
   ·obtain ⟨us,ru,pu⟩:=wJ I h1
    obtain ⟨ws,rw',pw⟩:=wJ I h2
    have l1:=ru.length
    have l2:=rw'.length
    have:=SeqAt.RcAt.lists (e:=e) pu pw (by simp only [List.size_toArray]; omega) (by omega) (yJ (R:=fun _ _ _=>True) ru rw' fun i x y u w e1 e2 r1 r2=>l0Q I n A.in1 x y (e i) u w hu1 (hall i x y e1 e2) r1 r2)
    rwa [show us.toArray.size=xs.length from by rw [List.size_toArray]; omega] at this
  ·cases rx
   cases ry
   refine SeqAt.EqAt.of_refs hac ?_
   obtain ⟨us,ru,pu⟩:=wJ I h1
   obtain ⟨ws,rw',pw⟩:=wJ I h2
   have l1:=ru.length
   have l2:=rw'.length
   exact SeqAt.RcAt.lists_lengths pu pw (by simp only [List.size_toArray,bne_iff_ne]; omega) (by omega)
end
section
variable {X:Cx}
def rDcd (k:Bool->Bool):R2:=fun x y H Q=>∃ (n:Nat) (a c:Addr) (xs ys:List V) (e:Nat->Bool),n<=50/\x = .ref a/\y = .ref c/\H a=some (.lst xs)/\H c=some (.lst ys)/\xs.length=ys.length/\(∀ (i:Nat) (u v:V),xs[i]?=some u->ys[i]?=some v->Dcd H n u v (e i))/\Q (.bl (k ((List.range xs.length).all e))) H
theorem i5Z (hu:X.A.units + 64 < cLine):OpR X (compareOp .Eq) (rDcd id):=by
 intro pins s σ H x y v u Q I rx ry h
 obtain ⟨n,a,c,xs,ys,e,hn,rfl,rfl,h1,h2,hl,hall,q⟩:=h
 cases rx
 cases ry
 have hu1:X.A.in1.units + n < cLine:=by
  have:X.A.in1.units=X.A.units + 1:=rfl
  omega
 obtain ⟨us,ru,pu⟩:=wJ I h1
 obtain ⟨ws,rw',pw⟩:=wJ I h2
 have l1:=ru.length
 have l2:=rw'.length
 refine SeqAt.RcAt.lists (e:=e) pu pw (by simp only [List.size_toArray]; omega) (by omega) (yJ (R:=fun _ _ _=>True) ru rw' fun i x y u w e1 e2 r1 r2=>l0Q I n X.A.in1 x y (e i) u w hu1 (hall i x y e1 e2) r1 r2) _ _ _ _ ?_
 rw [show us.toArray.size=xs.length from by rw [List.size_toArray]; omega]
 exact ⟨.bl _,H,I,rfl,q⟩
theorem n1X (hu:X.A.units + 64 < cLine):OpR X (compareOp .NotEq) (rDcd not):=by
 intro pins s σ H x y v u Q I rx ry h
 obtain ⟨n,a,c,xs,ys,e,hn,rfl,rfl,h1,h2,hl,hall,q⟩:=h
 cases rx
 cases ry
 have hu1:X.A.in1.units + n < cLine:=by
  have:X.A.in1.units=X.A.units + 1:=rfl
  omega
 obtain ⟨us,ru,pu⟩:=wJ I h1
 obtain ⟨ws,rw',pw⟩:=wJ I h2
 have l1:=ru.length
 have l2:=rw'.length
 refine SeqAt.RcNeAt.lists (e:=e) pu pw (by simp only [List.size_toArray]; omega) (by omega) (yJ (R:=fun _ _ _=>True) ru rw' fun i x y u w e1 e2 r1 r2=>l0Q I n X.A.in1 x y (e i) u w hu1 (hall i x y e1 e2) r1 r2) _ _ _ _ ?_
 rw [show us.toArray.size=xs.length from by rw [List.size_toArray]; omega]
 exact ⟨.bl _,H,I,rfl,q⟩
end
end L2
namespace L2
open PySem PySem.Spec PyProof.Rows
section
variable {X:Cx} {pins:List (Addr × Obj)} {σ:St} {H:Hp} {s:Shared} {a:Addr}
theorem Inv.freezeX {φ:Heap->Prop} (I:Inv X pins σ H s) (ha:H a=some (.ext φ)):∃ o,s.heap.get? a=some o/\Inv X pins σ (upd H a (.frz o (.ext φ))) s:=by
 obtain ⟨h0,⟨o,h1⟩,h2⟩:=(show tZ X.prog X.w H s.heap a (.ext φ) from I.hok a _ ha)
 exact ⟨o,h1,I.redo ha (fun _ e=>nomatch e) (fun _ e=>nomatch e) (fun _ e=>nomatch e) (I.unfrozen ha fun _ _ e=>nomatch e) ⟨h1,h0,⟨o,h1⟩,h2⟩⟩
theorem Inv.thawX {φ:Heap->Prop} {o:Obj} (I:Inv X pins σ H s) (ha:H a=some (.frz o (.ext φ))) (nf:∀ o v,X.H₀ a≠some (.frz o v)):Inv X pins σ (upd H a (.ext φ)) s:=by
 obtain ⟨h1,h0,h2,h3⟩:=(show tZ X.prog X.w H s.heap a (.frz o (.ext φ)) from I.hok a _ ha)
 exact I.redo ha (fun _ e=>nomatch e) (fun _ e=>nomatch e) (fun _ e=>nomatch e) nf ⟨h0,h2,h3⟩
end
def Itn (P:Program) (w:World) (d:Addr) (o:Obj) (xs:List (NKey × Addr × Value)):It:=
 ⟨fun i H=>H d=some (.frz o (PkO P w d xs))/\i < xs.length,fun i H x H'=>H'=H/\∃ y,xs[i]?=some y/\x = .ref y.2.1,fun i H=>H d=some (.frz o (PkO P w d xs))/\xs.length<=i⟩
theorem s9Q {P:Program} {w:World} {K:W.Frag} {tg:Expr} {es:Array DictEntry} {ep:Nat} {o:Obj} {xs:List (NKey × Addr × Value)} (hd:o.data = .dict es ep) (hx:o.ExactDict) (he:es.toList=xs.map (entryOfKey (qK P w))) (d it:Addr):Turn P w K tg (Itn P w d o xs) [it] it (fun i h=>h.IsKeyIter it d i es.size ep) where
 mem:=by simp
 obj:=fun i h st b hb=>by
  have e:b=it:=by simpa using hb
  subst e
  obtain ⟨o,e,c,d⟩:=st
  exact ⟨o,e,fun v z=>by rw [d] at z; cases z⟩
 keep:=fun i h h' ⟨o,e,r⟩ k=>⟨o,k it (by simp) o e,r⟩
 item:=by
  intro X hP hw hK hc i pins s σ H E I hf st hg
  subst hP hw hK
  obtain ⟨hH,hi⟩:=hg
  obtain ⟨h1,_⟩:=(show tZ X.prog X.w H s.heap d (.frz o (PkO X.prog X.w d xs)) from I.hok d _ hH)
  obtain ⟨f0,f1,f2,f3,f4,f5⟩:=hf it (by simp)
  refine j0Q (I.ok.hd hc) st ⟨o,h1,hx,hd⟩ (fun e h' hes st' sb=>?_) (fun e0 h' eb=>?_)
  ·have I1:Inv X pins σ H { s with heap:=h' }:=I.turned (t':=s.toks) (fun b o hb e=>(sb.2 b hb).trans e) f0 f1 f3 f4 f5
   rw [entry_at he,List.getElem?_eq_getElem hi] at hes
   have ek:e=entryOfKey (qK X.prog X.w) xs[i]:=(Option.some.inj hes).symm
   obtain ⟨o2,e2,c,dd⟩:=id st'
   exact ⟨e.key,rfl,m2Q (s:={ s with heap:=h' }) e2 c dd (by decide) ⟨.ref xs[i].2.1,H,I1,by rw [ek]; rfl,⟨rfl,xs[i],List.getElem?_eq_getElem hi,rfl⟩,st',fun b hb=>(hf b hb).1⟩⟩
  ·rw [entry_at he,List.getElem?_eq_getElem hi] at e0
   cases e0
 done:=by
  intro X hP hw hK hc i pins s σ H E I hf st hg
  subst hP hw hK
  obtain ⟨hH,hi⟩:=hg
  obtain ⟨h1,_⟩:=(show tZ X.prog X.w H s.heap d (.frz o (PkO X.prog X.w d xs)) from I.hok d _ hH)
  obtain ⟨f0,f1,f2,f3,f4,f5⟩:=hf it (by simp)
  refine j0Q (I.ok.hd hc) st ⟨o,h1,hx,hd⟩ (fun e h' hes st' sb=>?_) (fun e0 h' eb=>⟨rfl,I.turned (t':=s.toks) (fun b o hb e=>eb b o hb e) f0 f1 f3 f4 f5⟩)
  rw [entry_at he,List.getElem?_eq_none hi] at hes
  cases hes
 self:=fun _ _ _ _ _ st h=>wpAny_pyIter_keyiter st h
section
variable {X:Cx} {tg:Expr}
def o1X (P:Program) (w:World) (td:TE):TI:=fun σ H R=>td σ H fun x H1=>∃ d xs,x = .ref d/\H1 d=some (PkO P w d xs)/\(d == sysModules)=false/\∀ o,R (Itn P w d o xs) (upd H1 d (.frz o (PkO P w d xs)))
theorem j5Z {l:Expr} {td:TE} (hl:PE X l td):PI X tg l (o1X X.prog X.w td):=by
 intro pins s σ H R I h
 refine thn (hl pins s σ H _ I h) fun v s1 hh=>?_
 obtain ⟨x,H1,I1,r1,q1⟩:=hh
 obtain ⟨d,xs,e,hd,hs,q⟩:=q1
 subst e
 cases r1
 obtain ⟨o,ho,I2⟩:=I1.freezeX hd
 obtain ⟨⟨o',es,ep,h1,h2,h3,h4⟩,_⟩:=(show tZ X.prog X.w H1 s1.heap d (.ext (h5Q X.prog X.w d xs)) from I1.hok d _ hd)
 rw [ho] at h1
 cases h1
 refine t7Q hs ⟨o,ho,h2,h3⟩ ?_
 refine ⟨s1.heap.objs.size,[s1.heap.objs.size],_,_,_,rfl,I2.kept (t':=s1.toks) fun b o e=>Heap.get?_push_of_some _ e,s9Q h3 h2 h4 d _,⟨_,Heap.get?_push_size _ rfl,rfl,rfl⟩,fun b hb=>?_,q o⟩
 have e:b=s1.heap.objs.size:=by simpa using hb
 subst e
 exact I2.fpOk (Nat.le_refl _) (I2.hok.fresh (Nat.le_refl _))
theorem p2Z {P:Program} {w:World} {d:Addr} {o:Obj} {xs:List (NKey × Addr × Value)} {g:TG} {tb:TS} {D:Ends} {σ:St} {H:Hp} (Pv:Nat->St->Hp->Prop) (h0:Pv 0 σ H) (hl:∀ i σ H,i<=xs.length->Pv i σ H->H d=some (.frz o (PkO P w d xs)))
  (hs:∀ i y σ H,xs[i]?=some y->Pv i σ H->g (.ref y.2.1) σ H fun σ2 H2=>tb { D with nx:=Pv (i + 1),ct:=Pv (i + 1),bk:=D.nx } σ2 H2) (hd:∀ σ H,Pv xs.length σ H->D.nx σ H) :
  ∃ W:Nat->Nat->St->Hp->Prop,(∃ m,W 0 m σ H)/\∀ i m σ H,W i m σ H ->
   ((Itn P w d o xs).stop i H/\D.nx σ H)\/((Itn P w d o xs).go i H/\∃ N:St->Hp->Prop,(∀ σ' H',N σ' H'->∃ m',m' < m/\W (i + 1) m' σ' H')/\∀ x H',(Itn P w d o xs).yld i H x H'->g x σ H' fun σ2 H2=>tb { D with nx:=N,ct:=N,bk:=D.nx } σ2 H2):=by
 refine ⟨fun i m σ H=>m=xs.length - i/\i<=xs.length/\Pv i σ H,⟨xs.length,by simp,Nat.zero_le _,h0⟩,?_⟩
 rintro i m σ H ⟨rfl,hi,p⟩
 have q:=hl i σ H hi p
 by_cases hlt:i < xs.length
 ·refine .inr ⟨⟨q,hlt⟩,Pv (i + 1),fun σ' H' p'=>⟨xs.length - (i + 1),by omega,rfl,hlt,p'⟩,fun x H' y=>?_⟩
  obtain ⟨e,y,hy,rfl⟩:=y
  subst e
  exact hs i y σ _ hy p
 ·have e:i=xs.length:=by omega
  subst e
  exact .inl ⟨⟨q,Nat.le_refl _⟩,hd σ H p⟩
def p1X (d:Addr) (φ:Heap->Prop) (D:Ends):Ends:={ D with nx:=fun σ H=>∃ o,H d=some (.frz o (.ext φ))/\D.nx σ (upd H d (.ext φ)) }
def w2X (t:TS):TS:=fun D σ H=>∃ d φ,H d=some (.ext φ)/\t (p1X d φ D) σ H
theorem k5Z {st:Stmt} {t:TS} (h:PS X st t):PS X st (w2X t):=fun pins s σ H D I ⟨d,φ,hd,ht⟩=>by
 have nf:=I.unfrozen hd fun _ _ e=>nomatch e
 refine thn (h pins s σ H _ I ht) fun f s' q=>?_
 cases f with
 | next =>
  obtain ⟨σ',H',I',o,e,n⟩:=q
  exact ⟨σ',_,I'.thawX e nf,n⟩
 | _=>exact q
end
end L2
namespace L2
open PySem PySem.Spec PySem.W PyProof.Rows
def Gd {α:Type} (n:Nat) (R:α->Prop):KasT α->Prop
 | .ret a=>R a
 | .ask i j k=>i < n/\j < n/\∀ b,Gd n R (k b)
theorem Gd.bind {α β:Type} {n:Nat} {R:α->Prop} {S:β->Prop} {f:α->KasT β} (hf:∀ a,R a->Gd n S (f a)):∀ {t:KasT α},Gd n R t->Gd n S (t.bind f)
 | .ret a,h=>hf a h
 | .ask _ _ k,h=>⟨h.1,h.2.1,fun b=>Gd.bind hf (h.2.2 b)⟩
theorem Gd.wp {α:Type} {n:Nat} {R:α->Prop} {cmp:Nat->Nat->(Bool->Shared->Prop)->Shared->Prop} {s:Shared} {Q:α->Shared->Prop} (hc:∀ i j,i < n->j < n->∃ c,∀ C,C c s->cmp i j C s) (hq:∀ a,R a->Q a s):∀ {t:KasT α},Gd n R t->t.kasWp cmp Q s
 | .ret a,h=>hq a h
 | .ask i j k,h=>by
  obtain ⟨c,hC⟩:=hc i j h.1 h.2.1
  exact hC _ (Gd.wp hc hq (h.2.2 c))
abbrev PmN (n:Nat) (p:Array Nat):Prop:=p.Perm (List.toArray (List.range n))
theorem PmN.lt {n:Nat} {p:Array Nat} (h:PmN n p) (hn:0 < n) (i:Nat):p.getD i 0 < n:=by
 by_cases hi:i < p.size
 ·have e:p.getD i 0=p[i]:=by simp [Array.getD,hi]
  rw [e]
  have hm:p[i]∈p.toList:=by simp
  have:=(Array.perm_iff_toList_perm.mp h).mem_iff.mp hm
  simpa using this
 ·have e:p.getD i 0=0:=by simp [Array.getD,hi]
  rw [e]; exact hn
theorem PmN.rev {n:Nat} {p:Array Nat} (h:PmN n p) (i j:Nat):PmN n (kas_rev p i j):=(mirror_perm p i j _).trans h
section
variable {n:Nat}
theorem t9Q (hn:0 < n) {p:Array Nat} (hp:PmN n p):∀ (f m:Nat),Gd n (fun _=>True) (kas_asc p f m)
 | 0,_=>trivial
 | f + 1,m=>⟨hp.lt hn _,hp.lt hn _,fun b=>by cases b with
  | true=>exact trivial
  | false=>exact t9Q hn hp f (m + 1)⟩
theorem i2Q (hn:0 < n):∀ (f:Nat) {p:Array Nat} (hp:PmN n p) (m q:Nat),Gd n (fun r:Array Nat × Nat × Nat=>PmN n r.1) (kas_desc f p m q)
 | 0,_,hp,_,_=>hp
 | f + 1,p,hp,m,q=>⟨hp.lt hn _,hp.lt hn _,fun b=>by
   cases b with
   | true =>
    show Gd n _ (if true=true then _ else _)
    rw [if_pos rfl]
    by_cases hq:q > 0
    ·rw [if_pos hq]; exact i2Q hn f (hp.rev _ _) _ _
    ·rw [if_neg hq]; exact i2Q hn f hp _ _
   | false =>
    show Gd n _ (if false=true then _ else _)
    rw [if_neg Bool.false_ne_true]
    refine ⟨hp.lt hn _,hp.lt hn _,fun b=>?_⟩
    cases b with
    | true=>exact hp
    | false=>exact i2Q hn f hp _ _⟩
theorem w7Q (hn:0 < n) {p:Array Nat} (hp:PmN n p) (m k:Nat):Gd n (fun r:Nat × Array Nat=>PmN n r.2) (kas_tail3 m k p):=by
 unfold kas_tail3
 refine Gd.bind (R:=fun _=>True) (fun a _=>?_) (t9Q hn (hp.rev _ _) _ _)
 exact hp.rev _ _
theorem r1Q (hn:0 < n) {p:Array Nat} (hp:PmN n p) (m k:Nat):Gd n (fun r:Nat × Array Nat=>PmN n r.2) (kas_descPart m k p):=by
 refine Gd.bind (fun r hr=>?_) (i2Q hn _ hp _ _)
 by_cases hq:r.2.2 > 0
 ·rw [if_pos hq]; exact w7Q hn (PmN.rev hr _ _) _ _
 ·rw [if_neg hq]; exact w7Q hn hr _ _
theorem l5Z (hn:0 < n) {p:Array Nat} (hp:PmN n p) (k:Nat):Gd n (fun r:Nat × Array Nat=>PmN n r.2) (kas_count k p):=by
 refine Gd.bind (fun m _=>?_) (t9Q hn hp _ _)
 by_cases h1:(m == k)=true
 ·rw [if_pos h1]; exact hp
 ·rw [if_neg h1]
  by_cases h2:m > 1
  ·rw [if_pos h2]
   refine ⟨hp.lt hn _,hp.lt hn _,fun b=>?_⟩
   cases b with
   | true=>exact hp
   | false=>exact r1Q hn (hp.rev _ _) _ _
  ·rw [if_neg h2]; exact r1Q hn hp _ _
theorem f3Q (hn:0 < n) {p:Array Nat} (hp:PmN n p) (k:Nat):∀ (f l r:Nat),Gd n (fun _=>True) (kas_place p k f l r)
 | 0,_,_=>trivial
 | f + 1,l,r=>by
  show Gd n _ (if l ≥ r then _ else _)
  by_cases h:l ≥ r
  ·rw [if_pos h]; exact trivial
  ·rw [if_neg h]
   refine ⟨hp.lt hn _,hp.lt hn _,fun b=>?_⟩
   cases b with
   | true=>exact f3Q hn hp k f _ _
   | false=>exact f3Q hn hp k f _ _
theorem m5Z (hn:0 < n):∀ (f:Nat) {p:Array Nat} (hp:PmN n p) (k:Nat),Gd n (PmN n) (kas_bin f p k)
 | 0,_,hp,_=>hp
 | f + 1,p,hp,k=>Gd.bind (fun l _=>m5Z hn f ((bubble_perm p k _).trans hp) _) (f3Q hn hp k _ _ _)
theorem n8Z (hn:0 < n):Gd n (PmN n) (kas_sort n):=by
 refine Gd.bind (fun r hr=>?_) (l5Z hn (Array.Perm.refl _) _)
 by_cases h:r.1 < n
 ·rw [if_pos h]; exact m5Z hn _ hr _
 ·rw [if_neg h]; exact hr
end
theorem q1X {vs:List Value} {p:Array Nat} (h:PmN vs.length p):(p.toList.map fun i=>vs.getD i Value.none).Perm vs:=by
 have e:((List.range vs.length).map fun i=>vs.getD i Value.none)=vs:=by
  apply List.ext_getElem?
  intro i
  rw [List.getElem?_map]
  by_cases hi:i < vs.length
  ·rw [List.getElem?_range hi]; simp [hi]
  ·rw [List.getElem?_eq_none (by simpa using hi),List.getElem?_eq_none (by omega)]; rfl
 have:=(Array.perm_iff_toList_perm.mp h).map (fun i=>vs.getD i Value.none)
 rw [show (List.toArray (List.range vs.length)).toList=List.range vs.length from rfl,e] at this
 exact this
section
variable {prog:Program} {w:World} {A:Around} {E:Value->Shared->Prop} {s:Shared}
theorem h6Q {vs:List Value} {a:Addr} {n:Nat} {P:PySem.Fin->Shared->Prop} (ho:s.heap.get? a=some (seqObj "list" vs.toArray n)) (h64:vs.length < 64)
  (hk:2<=vs.length->∀ h':Heap,(∀ b o,b≠a->s.heap.get? b=some o->h'.get? b=some o)->∃ κ,(∀ (Q:SortKind->Shared->Prop) (E':Value->Shared->Prop),Q κ { s with heap:=h' }->wpAny (model prog w) A (keyKind' vs.toArray) Q E' { s with heap:=h' }) /\
   ∀ i j,i < vs.length->j < vs.length->∃ c,∀ C:Bool->Shared->Prop,C c { s with heap:=h' }->kas_ask prog w A κ vs i j C { s with heap:=h' })
  (k:∀ (out:List Value) (h':Heap) (c:Nat),out.Perm vs->(∀ b o,b≠a->s.heap.get? b=some o->h'.get? b=some o)->h'.get? a=some (seqObj "list" out.toArray c)->P (.done (.ret .none)) { s with heap:=h' }) :
  wpAny (model prog w) A (Builtin.«list.sort» ⟨[.ref a],[]⟩) P E s:=by
 have ha:a < s.heap.objs.size:=Heap.lt_size ho
 have s1:=Heap.SameBut.update s.heap a (Obj.mapSeq fun _=>(#[]:Array Value))
 obtain ⟨e1,ho1⟩:∃ e1,(s.heap.update a (Obj.mapSeq fun _=>(#[]:Array Value))).get? a=some (seqObj "list" #[] e1):=⟨_,get?_update_seq ho fun _=>#[]⟩
 have ho2:(((s.heap.update a (Obj.mapSeq fun _=>(#[]:Array Value))).push (seqObj "tuple" vs.toArray 0)).push (seqObj "list" #[] 0)).get? a=some (seqObj "list" #[] e1):=Heap.get?_push_of_some _ (Heap.get?_push_of_some _ ho1)
 have keep:∀ b o,b≠a->s.heap.get? b=some o->(((s.heap.update a (Obj.mapSeq fun _=>(#[]:Array Value))).push (seqObj "tuple" vs.toArray 0)).push (seqObj "list" #[] 0)).get? b=some o:=
  fun b o hb e=>Heap.get?_push_of_some _ (Heap.get?_push_of_some _ ((s1.2 b hb).trans e))
 rw [list_sort_plain]
 refine wpAny_bind (listItems_at ho rfl ?_)
 refine wpAny_bind (listUpdate_at ho rfl ?_ (by rw [List.size_toArray,sizeLine_eq]; omega) (Nat.zero_le _))
 refine wpAny_bind (seqEpoch_at ho1 rfl ?_)
 refine wpAny_bind (wpAny_newTuple ?_ (by show vs.length<=_; rw [sizeLine_eq]; omega))
 refine wpAny_bind (wpAny_newList ?_ (Nat.zero_le _))
 refine wpAny_holding ?_
 show wpAny (model prog w) A _ P E { s with heap:=((s.heap.update a (Obj.mapSeq fun _=>(#[]:Array Value))).push (seqObj "tuple" vs.toArray 0)).push (seqObj "list" #[] 0) }
 dsimp only
 generalize ((s.heap.update a (Obj.mapSeq fun _=>(#[]:Array Value))).push (seqObj "tuple" vs.toArray 0)).push (seqObj "list" #[] 0)=h2 at ho2 keep ⊢
 have last:∀ (st:SortSt) (out:List Value),(arrOf st).map (·.2)=out.toArray->failedOf st=none->out.Perm vs->wpAny (model prog w) A
   (do
    let touched:=(<- seqEpoch a) != e1
    Builtin.List.listUpdate (.ref a) fun _=>(arrOf st).map (·.2)
    if let some e:=failedOf st then rule "list.sort.comparison-raised"; throw e
    if touched then rule "list.sort.modified"; raiseError "ValueError" "list modified during sort"
    ret .none) P E { s with heap:=h2 }:=by
  intro st out hout hf hp
  have hl:=hp.length_eq
  rw [hout]
  refine wpAny_bind (seqEpoch_at (s:={ s with heap:=h2 }) ho2 rfl ?_)
  refine wpAny_bind (listUpdate_at (s:={ s with heap:=h2 }) ho2 rfl ?_ (Nat.zero_le _) (by show out.toArray.size<=_; rw [List.size_toArray,sizeLine_eq]; omega))
  rw [hf]
  simp only [bne_self_eq_false,Bool.false_eq_true,if_false]
  have s2:=Heap.SameBut.update h2 a (Obj.mapSeq fun _=>out.toArray)
  exact wpAny_pure (k out _ _ hp (fun b o hb e=>(s2.2 b hb).trans (keep b o hb e)) (get?_update_seq ho2 fun _=>out.toArray))
 by_cases hn2:vs.toArray.size < 2
 ·rw [if_pos hn2,if_pos hn2]
  refine wpAny_bind (wpAny_pure ?_)
  refine wpAny_bind (wpAny_pure ?_)
  refine last (SortSt.mk' general' (vs.toArray.zip vs.toArray) #[] 7 none) vs ?_ rfl (List.Perm.refl _)
  show (vs.toArray.zip vs.toArray).map (·.2)=vs.toArray
  apply Array.toList_inj.mp
  rw [Array.toList_map,Array.toList_zip]
  show (vs.zip vs).map Prod.snd=vs
  exact List.map_snd_zip (by omega)
 ·rw [if_neg hn2,if_neg hn2]
  have h2':2<=vs.length:=by rw [List.size_toArray] at hn2; omega
  obtain ⟨κ,hkk,hask⟩:=hk h2' h2 keep
  refine wpAny_bind (hkk _ _ ?_)
  refine wpAny_bind (wpAny_mono (kat_run (E:=E) (Q:=fun st' s'=>∃ p:Array Nat,p.size=vs.length/\arrOf st'=p.map (kas_item (vs.toArray.zip vs.toArray))/\failedOf st'=none/\(PmN vs.length p/\s'={ s with heap:=h2 })) (G:=fun p s'=>PmN vs.length p/\s'={ s with heap:=h2 })
   rfl h2' h64 (fun p' st' s' a1 a2 a3 a4=>⟨p',a1,a2,a3,a4⟩) (Gd.wp hask (fun p hp=>⟨hp,rfl⟩) (n8Z (by omega)))) ?_ fun _ _ e=>e)
  rintro ⟨⟨⟩,st'⟩ s' ⟨p,hp,har,hf,hpm,rfl⟩
  exact last st' _ (kat_snds rfl har) hf (q1X hpm)
end
def Tk (k:NKey):Prop:=(∃ z,k.1 = .inr z)/\∃ ns:List Int,k.2=ns.map Sum.inl
section
variable {prog:Program} {w:World} {A:Around} {E:Value->Shared->Prop} {s:Shared}
theorem zU {k:Key} {v:Value} (h:(fZ prog w).is k v=true):(∃ i t,k=Sum.inl i/\v=Value.int i t)\/(∃ x t,k=Sum.inr x/\v=Value.str x t):=qX (k:=k) (v:=v) h
theorem rO:∀ {ns:List Int} {vs:List Value},ItemsAre (fZ prog w) (ns.map Sum.inl) vs->IntsAre vs ns
 | [],_,h=>by cases h; exact .nil
 | n :: ns,_,h=>by
  cases h with
  | cons h1 h2 =>
   rcases zU h1 with ⟨i,t,e,rfl⟩ | ⟨x,t,e,rfl⟩
   ·cases e; exact .cons _ _ (rO h2)
   ·cases e
theorem inl_inj:∀ {ns ms:List Int},ns.map (Sum.inl:Int->Key)=ms.map Sum.inl->ns=ms
 | [],[],_=>rfl
 | [],_ :: _,h=>nomatch h
 | _ :: _,[],h=>nomatch h
 | a :: ns,b :: ms,h=>by
  obtain ⟨h1,h2⟩:=List.cons.inj h
  cases h1
  rw [inl_inj h2]
theorem x2X {x y:NKey} {a b:Addr} (hu:A.units + 1 < cLine) (hx:rY prog w s.heap x a) (hy:rY prog w s.heap y b) (tx:Tk x) (ty:Tk y):∃ c,∀ (C:Bool->Shared->Prop) (E:Value->Shared->Prop),C c s->wpAny (model prog w) A (keyLt' (tuples' true) (.ref a) (.ref b)) C E s:=by
 obtain ⟨oa,ta,ba,na,hoa,_,hda,hva,hia⟩:=hx
 obtain ⟨ob,tb,bb,nb,hob,_,hdb,hvb,hib⟩:=hy
 obtain ⟨⟨zx,ex⟩,ns,enx⟩:=tx
 obtain ⟨⟨zy,ey⟩,ms,eny⟩:=ty
 obtain ⟨x1,x2⟩:=x
 obtain ⟨y1,y2⟩:=y
 simp only at ex enx ey eny hva hvb hia hib
 subst ex enx ey eny
 have ha':=hva
 have hb':=hvb
 rcases zU hva with ⟨i,t,e,_⟩ | ⟨_,t,e,rfl⟩
 ·cases e
 cases e
 rcases zU hvb with ⟨i,t',e,_⟩ | ⟨_,t',e,rfl⟩
 ·cases e
 cases e
 have fa:=hia
 have fb:=hib
 obtain ⟨o1,it1,n1,g1,c1,d1,r1⟩:=hia
 obtain ⟨o2,it2,n2,g2,c2,d2,r2⟩:=hib
 have q1:=rO r1
 have q2:=rO r2
 have key:∀ (C:Bool->Shared->Prop) (E:Value->Shared->Prop),C (if zx=zy then (if ns=ms then false else HT.lexLt ns ms) else decide (zx.cps.toList < zy.cps.toList)) s->wpAny (model prog w) A (keyLt' (tuples' true) (.ref a) (.ref b)) C E s:=by
  intro C E hC
  refine kat_lt hoa hda hob hdb ?_
  refine kat_cons ((fZ prog w).eqBool (a:=Sum.inr zx) (b:=Sum.inr zy) ha' hb' ?_)
  by_cases hz:zx=zy
  ·subst hz
   rw [if_pos rfl] at hC
   rw [decide_eq_true rfl]
   refine kat_yes (kat_cons (wpAny_eqBool_tuple (Nat.lt_of_succ_lt hu) fa fb ?_))
   by_cases hn:ns=ms
   ·subst hn
    rw [if_pos rfl] at hC
    rw [decide_eq_true rfl]
    exact kat_yes (kat_nil hC)
   ·rw [if_neg hn] at hC
    rw [decide_eq_false (fun z=>hn (inl_inj z))]
    refine kat_no ?_
    exact (kat_one _ _ (HT.lt_tupInts ⟨o1,g1,c1,n1,d1⟩ ⟨o2,g2,c2,n2,d2⟩ q1 q2 (Nat.lt_of_succ_lt hu) hC))
  ·rw [if_neg hz] at hC
   rw [decide_eq_false (show ¬ ((Sum.inr zx:Key)=Sum.inr zy) from fun z=>hz (Sum.inr.inj z))]
   refine kat_no ?_
   exact oneLt_str hC
 exact ⟨_,key⟩
theorem o8Z {xs:List (NKey × Addr)} (h:∀ x∈xs,rY prog w s.heap x.1 x.2/\Tk x.1):∃ fs:List Value,fs.length=xs.length/\KatTups s.heap (xs.map fun x=>Value.ref x.2) fs/\∀ v∈fs,∃ z t,v=Value.str z t:=by
 induction xs with
 | nil=>exact ⟨[],rfl,KatTups.nil,fun v hv=>nomatch hv⟩
 | cons x xs ih =>
  obtain ⟨fs,l,t,hf⟩:=ih fun y hy=>h y (List.mem_cons_of_mem _ hy)
  obtain ⟨⟨o,v,b,n,ho,hc,hd,hv,_⟩,⟨z,ez⟩,_⟩:=h x List.mem_cons_self
  refine ⟨v :: fs,by rw [List.length_cons,List.length_cons,l],KatTups.cons ho hc hd rfl t,fun u hu=>?_⟩
  rcases List.mem_cons.mp hu with rfl | hu
  ·rw [ez] at hv
   rcases zU hv with ⟨i,t,e,_⟩ | ⟨y,t,e,e'⟩
   ·cases e
   ·exact ⟨_,_,e'⟩
  ·exact hf u hu
end
theorem i6Q {X:Cx} (hc:X.calm=true) (hu:X.A.units + 64 < cLine):yV X (.builtin "sorted") (fun xs H Q=>∃ d kvs,xs=[.ref d]/\rX X.prog X.w H d kvs/\kvs.length < 64/\(∀ kv∈kvs,Tk kv.1) /\
  ∀ (p:Addr) (rs:List Addr),H p=none->rs.length=kvs.length->(∀ r∈rs,∃ kv∈kvs,wY H kv.1 r)->(∀ kv∈kvs,∃ r∈rs,wY H kv.1 r)->Q (.ref p) (upd H p (.lst (rs.map V.ref)))):=by
 intro pins s σ H xs us Q I r h
 obtain ⟨d,kvs,rfl,hN,h64,htk,q⟩:=h
 obtain ⟨u,rfl,rx⟩:=c0Q r
 cases rx
 obtain ⟨xs,rel,hd,⟨o,es,ep,h1,h2,h3,h4,_,_⟩,hs,_⟩:=hN.dict I
 have hsz:es.size=xs.length:=size_of_entries h4
 have hl2:xs.length=kvs.length:=by have:=congrArg List.length rel.keys; simpa using this
 have fwd:∀ {kvs:List (NKey × V)} {xs:List (NKey × Addr × Value)},NT H kvs xs->(∀ x∈xs,(∃ kv∈kvs,kv.1=x.1)/\wY H x.1 x.2.1)/\∀ kv∈kvs,∃ x∈xs,kv.1=x.1:=by
  intro kvs xs r
  induction r with
  | nil=>exact ⟨(fun x hx=>nomatch hx),(fun x hx=>nomatch hx)⟩
  | @cons p q ps qs h t ih =>
   refine ⟨fun x hx=>?_,fun x hx=>?_⟩
   ·rcases List.mem_cons.mp hx with rfl | hx
    ·exact ⟨⟨p,List.mem_cons_self,h.1⟩,h.2.1⟩
    ·obtain ⟨⟨kv,hk,e⟩,y⟩:=ih.1 x hx
     exact ⟨⟨kv,List.mem_cons_of_mem _ hk,e⟩,y⟩
   ·rcases List.mem_cons.mp hx with rfl | hx
    ·exact ⟨q,List.mem_cons_self,h.1⟩
    ·obtain ⟨y,hy,e⟩:=ih.2 x hx
     exact ⟨y,List.mem_cons_of_mem _ hy,e⟩
 have f:=fwd rel
 refine Calls.call_function_entry kind_sorted plain_sorted entry_sorted (args_sorted1 _) ?_
 unfold Builtin.«sorted»
 refine wpAny_bind (m:=checkCount "sorted" 1 1 _) (wpAny_pure ?_)
 refine wpAny_bind (kdu_collect (A:=X.A.in1) (k8Z (es:=es) (ep:=ep) hs) (I.ok.hd hc) ⟨o,h1,h2,h3⟩ (by rw [sizeLine_eq]; omega) fun h' tk acc hk hacc=>?_)
 have hl:acc.toList=xs.map fun x=>Value.ref x.2.1:=by
  apply List.ext_getElem?
  intro i
  rw [List.getElem?_map]
  by_cases hi:i < acc.size
  ·have e0:acc.toList[i]?=some acc[i]:=by rw [Array.getElem?_toList]; exact Array.getElem?_eq_getElem hi
   obtain ⟨e,he,ee⟩:=hacc.2 i acc[i] (Array.getElem?_eq_getElem hi)
   rw [entry_at h4] at he
   rw [e0]
   obtain ⟨x,hx,rfl⟩:=Option.map_eq_some_iff.mp he
   rw [hx,ee]
   rfl
  ·have:=hacc.1
   rw [List.getElem?_eq_none (by rw [Array.length_toList]; omega),List.getElem?_eq_none (by omega)]
   rfl
 rw [hl]
 refine wpAny_bind (wpAny_newList ?_ (by rw [List.length_map,sizeLine_eq]; omega))
 have hoL:(h'.push (seqObj "list" (List.toArray (xs.map fun x=>Value.ref x.2.1)) 0)).get? h'.objs.size=some (seqObj "list" (List.toArray (xs.map fun x=>Value.ref x.2.1)) 0):=Heap.get?_push_size _ rfl
 have fresh:s.heap.get? h'.objs.size=none:=by
  cases e:s.heap.get? h'.objs.size with
  | none=>rfl
  | some o=>exact absurd (Heap.lt_size (hk _ _ e)) (Nat.lt_irrefl _)
 show wpAny _ _ _ _ _ { s with heap:=h'.push (seqObj "list" (List.toArray (xs.map fun x=>Value.ref x.2.1)) 0),toks:=tk }
 refine wpAny_bind (wpAny_holding (wpAny_call_entry slot_list_sort ⟨_,hoL,rfl⟩ entry_list_sort ?body (args_list_sort _)))
 case body =>
  refine h6Q (s:={ s with heap:=h'.push (seqObj "list" (List.toArray (xs.map fun x=>Value.ref x.2.1)) 0),toks:=tk }) hoL (by rw [List.length_map]; omega) (fun h2' hh hkeep=>?_) fun out hh c hp hkeep hout=>?_
  ·have keep:∀ b o,s.heap.get? b=some o->hh.get? b=some o:=fun b o e=>hkeep b o (fun z=>by subst z; rw [fresh] at e; cases e) (Heap.get?_push_of_some _ (hk b o e))
   have I2:Inv X pins σ H { s with heap:=hh,toks:=tk }:=I.kept keep
   have all:∀ x∈xs,rY X.prog X.w hh x.1 x.2.1/\Tk x.1:=fun x hx=>by
    obtain ⟨⟨kv,hkv,e⟩,y⟩:=f.1 x hx
    exact ⟨y.is I2,e ▸ htk kv hkv⟩
   refine ⟨tuples' true,fun Q E' hQ=>?_,fun i j hi hj=>?_⟩
   ·obtain ⟨fs,e1,e2,e3⟩:=o8Z (s:={ s with heap:=hh,toks:=tk }) (prog:=X.prog) (w:=X.w) (xs:=xs.map fun x=>(x.1,x.2.1)) fun y hy=>by
     obtain ⟨x,hx,rfl⟩:=List.mem_map.mp hy
     exact all x hx
    rw [List.map_map] at e2
    rw [List.length_map] at e1 h2'
    refine kat_kind (T:=Value.type "str") e2 (by omega) (fun v hv=>?_) (by decide) hQ
    obtain ⟨z,t,rfl⟩:=e3 v hv
    exact Looks.of_pure rfl
   ·rw [List.length_map] at hi hj
    obtain ⟨c,hcc⟩:=x2X (A:=X.A.in1.in1) (s:={ s with heap:=hh,toks:=tk }) (by show X.A.units + 1 + 1 + 1 < cLine; omega) (all _ (List.getElem_mem hi)).1 (all _ (List.getElem_mem hj)).1 (all _ (List.getElem_mem hi)).2 (all _ (List.getElem_mem hj)).2
    refine ⟨c,fun C hC=>?_⟩
    unfold kas_ask
    rw [show (xs.map fun x=>Value.ref x.2.1).getD i Value.none = .ref xs[i].2.1 by simp [hi],show (xs.map fun x=>Value.ref x.2.1).getD j Value.none = .ref xs[j].2.1 by simp [hj]]
    exact hcc C _ hC
  ·have keep:∀ b o,s.heap.get? b=some o->hh.get? b=some o:=fun b o e=>hkeep b o (fun z=>by subst z; rw [fresh] at e; cases e) (Heap.get?_push_of_some _ (hk b o e))
   have hrefs:∃ rs:List Addr,out=rs.map Value.ref:=by
    have:∀ v∈out,∃ a,v=Value.ref a:=fun v hv=>by
     obtain ⟨x,_,e⟩:=List.mem_map.mp (hp.mem_iff.mp hv)
     exact ⟨_,e.symm⟩
    clear hout hp
    induction out with
    | nil=>exact ⟨[],rfl⟩
    | cons v out ih =>
     obtain ⟨rs,e⟩:=ih fun u hu=>this u (List.mem_cons_of_mem _ hu)
     obtain ⟨a,rfl⟩:=this v List.mem_cons_self
     exact ⟨a :: rs,by rw [e]; rfl⟩
   obtain ⟨rs,rfl⟩:=hrefs
   have hlen:rs.length=xs.length:=by have:=hp.length_eq; simpa using this
   have hmem:∀ a,a∈rs ↔ ∃ x∈xs,x.2.1=a:=fun a=>by
    have h1:=hp.mem_iff (a:=Value.ref a)
    constructor
    ·intro ha
     obtain ⟨x,hx,e⟩:=List.mem_map.mp (h1.mp (List.mem_map.mpr ⟨a,ha,rfl⟩))
     exact ⟨x,hx,by injection e⟩
    ·rintro ⟨x,hx,rfl⟩
     obtain ⟨b,hb,e⟩:=List.mem_map.mp (h1.mpr (List.mem_map.mpr ⟨x,hx,rfl⟩))
     injection e with e
     rw [<-e]; exact hb
   refine ⟨_,rfl,wpAny_pure ⟨_,rfl,.ref h'.objs.size,_,I.laidN (a:=h'.objs.size) (o:=.lst (rs.map V.ref)) (t':=tk) keep fresh ?_,rfl,q _ rs (I.hok.freshN fresh) (by omega) (fun r hr=>?_) fun kv hkv=>?_⟩⟩
   ·exact ⟨by rw [List.length_map,sizeLine_eq]; omega,rs.map Value.ref,c,f6Q (by simp) (fun i x w e1 e2=>by
     rw [List.getElem?_map] at e1 e2
     obtain ⟨a,ha,rfl⟩:=Option.map_eq_some_iff.mp e1
     rw [ha] at e2
     cases e2
     exact rfl),hout⟩
   ·obtain ⟨x,hx,rfl⟩:=(hmem r).mp hr
    obtain ⟨⟨kv,hkv,e⟩,y⟩:=f.1 x hx
    exact ⟨kv,hkv,e ▸ y⟩
   ·obtain ⟨x,hx,e⟩:=f.2 kv hkv
    exact ⟨x.2.1,(hmem _).mpr ⟨x,hx,rfl⟩,e ▸ (f.1 x hx).2⟩
end L2
namespace K51
open PySem L2
variable {P:Program} {w:World} {K:W.Frag} {mg:Str->Option Value} {base:Heap}
local macro_rules | `(tactic| wtm_at "f")=>`(tactic| exact ⟨rfl,rfl,rfl,by decide +kernel,rfl,by decide +kernel,by decide +kernel⟩)
local macro_rules | `(tactic| wtm_at "g")=>`(tactic| exact ⟨rfl,by decide +kernel,by decide +kernel,by decide +kernel,rfl,by decide +kernel⟩)
def top (i:Nat):Stmt:=PySem.Challenge.pw_sayswho_k51_whole_greatest_by_ways.main.body.getD i (.Pass ⟨0,0,0,0⟩)
abbrev eW:Stmt:=top 2
abbrev fW:Stmt:=top 3
abbrev e1Q:Stmt:=top 4
abbrev fJ:Stmt:=top 6
abbrev gW:Stmt:=top 7
abbrev xY:Stmt:=top 8
abbrev bY:Stmt:=top 9
abbrev rK:Stmt:=top 11
abbrev yX:Stmt:=top 13
abbrev yY:Stmt:=top 14
abbrev aO:Stmt:=top 15
abbrev f1Q:Stmt:=top 16
abbrev qW:Stmt:=top 17
abbrev zY:Stmt:=top 18
abbrev rJ:Stmt:=top 20
abbrev aK:Stmt:=top 22
abbrev bK:Stmt:=top 23
abbrev rW:Stmt:=top 24
abbrev aX:Stmt:=top 25
abbrev sW:Stmt:=top 26
abbrev eK:Stmt:=top 27
abbrev uV:Stmt:=top 28
abbrev hW:Stmt:=top 30
abbrev kJ:Stmt:=top 31
abbrev tW:Stmt:=top 32
abbrev sJ:Stmt:=top 33
abbrev sO:Stmt:=e0Q (top 34) 0
abbrev tO:Stmt:=e0Q (top 34) 1
abbrev uW:Stmt:=e0Q (top 34) 2
abbrev cY:Stmt:=e0Q (top 34) 3
abbrev oJ:Stmt:=e0Q (top 34) 4
abbrev vV:Stmt:=top 35
abbrev vW:Stmt:=top 36
abbrev g1Q:Stmt:=top 38
abbrev h1Q:Stmt:=top 39
abbrev i5Q:Stmt:=top 40
abbrev sSum:Stmt:=top 41
abbrev wW:Stmt:=top 42
abbrev dY:Stmt:=top 43
abbrev uO:Stmt:=top 44
abbrev sK:Stmt:=top 45
abbrev sSo:Stmt:=top 46
abbrev i1Q:Stmt:=top 47
abbrev j1Q:Stmt:=top 48
abbrev bO:Stmt:=top 49
abbrev k1Q:Stmt:=top 50
abbrev j5Q:Stmt:=top 51
abbrev l1Q:Stmt:=top 52
abbrev tK:Stmt:=top 53
abbrev k5Q:Stmt:=top 54
abbrev g3Q:Stmt:=top 55
abbrev m0Q:Stmt:=top 56
abbrev sLaw:Stmt:=top 57
structure Blt (mg:Str->Option Value):Prop where
 abs:mg "abs"=none
 bool:mg "bool"=none
 dict:mg "dict"=none
 enumerate:mg "enumerate"=none
 int:mg "int"=none
 isinstance:mg "isinstance"=none
 len:mg "len"=none
 list:mg "list"=none
 max:mg "max"=none
 min:mg "min"=none
 range:mg "range"=none
 reversed:mg "reversed"=none
 sorted:mg "sorted"=none
 str:mg "str"=none
 sum:mg "sum"=none
 tuple:mg "tuple"=none
 zip:mg "zip"=none
theorem r1X:bootBuiltins "abs"=some (.builtin "abs"):=by decide +kernel
theorem u0Z:bootBuiltins "bool"=some (.type "bool"):=by decide +kernel
theorem v0Z:bootBuiltins "dict"=some (.type "dict"):=by decide +kernel
theorem s1X:bootBuiltins "int"=some (.type "int"):=by decide +kernel
theorem eX:bootBuiltins "isinstance"=some (.builtin "isinstance"):=by decide +kernel
theorem pX:bootBuiltins "len"=some (.builtin "len"):=by decide +kernel
theorem n0Q:bootBuiltins "list"=some (.type "list"):=by decide +kernel
theorem t1X:bootBuiltins "max"=some (.builtin "max"):=by decide +kernel
theorem n5Z:bootBuiltins "min"=some (.builtin "min"):=by decide +kernel
theorem q2Z:bootBuiltins "sorted"=some (.builtin "sorted"):=by decide +kernel
theorem o5Z:bootBuiltins "str"=some (.type "str"):=by decide +kernel
theorem p5Z:bootBuiltins "sum"=some (.builtin "sum"):=by decide +kernel
theorem h3Q:bootBuiltins "tuple"=some (.type "tuple"):=by decide +kernel
structure Glb (K:W.Frag) (mg:Str->Option Value):Prop where
 OF_ONE_BOX:GT K mg "OF_ONE_BOX" [.str "is",.str "from",.str "to",.str "rest",.str "either",.str "never"]
local macro_rules | `(tactic| wtm_at "h")=>`(tactic| first | assumption | exact dQ)
local macro_rules | `(tactic| wtm_at "c")=>`(tactic| first | exact z9Z | exact cmr (by decide) (by decide) | exact cm (by decide) (by decide) | exact cm (by omega) (by omega) | exact ⟨by decide,by decide⟩ | (dsimp only; omega) | omega | assumption)
local macro_rules | `(tactic| wtm_at "s")=>`(tactic| first | refine ⟨_,rfl,?_⟩ | refine ⟨_,_,rfl,rfl,?_⟩ | refine ⟨rfl,?_⟩ | refine ⟨_,_,_,_,rfl,rfl,SqT.of (by wtm_at "h"),rfl,?_⟩ | refine ⟨_,_,_,_,rfl,rfl,SqL.of (by wtm_at "h"),rfl,?_⟩ | refine And.intro (by wtm_at "c") ?_)
local macro_rules | `(tactic| wtm_at "ss")=>`(tactic| repeat wtm_at "s")
structure Box where
 nm:Str
 lo:Int
 hi:Int
 fst:Int
def Box.tup (b:Box):List V:=[.str b.nm,.int b.lo,.int b.hi,.int b.fst]
structure Box.Ok (b:Box):Prop where
 fl:b.lo<=b.fst
 fh:b.fst<=b.hi
 lo:-99<=b.lo
 hi:b.hi<=99
 w:b.hi - b.lo < 20
def Box.size (b:Box):Nat:=(b.hi - b.lo + 1).toNat
def vol:List Box->Nat
 | []=>1
 | b :: r=>b.size * vol r
theorem j2Q (ys:List Box):∀ xs:List Box,vol (xs++ys)=vol xs * vol ys
 | []=>by simp [vol]
 | c :: r=>by
  show c.size * vol (r++ys)=c.size * vol r * vol ys
  rw [j2Q ys r,Nat.mul_assoc]
def i3Q (H:Hp) (v:V) (b:Box):Prop:=∃ p,v = .ref p/\H p=some (.tup b.tup)
structure gJ (H:Hp) (pb:Addr) (us:List V) (bs:List Box):Prop where
 at_:H pb=some (.lst us)
 each:tX (i3Q H) us bs
theorem i3Q.same {H H':Hp} {v:V} {b:Box} (h:i3Q H v b) (s:iQ H H'):i3Q H' v b:=by
 obtain ⟨p,rfl,hp⟩:=h
 exact ⟨p,rfl,s _ _ hp⟩
theorem gJ.same {H H':Hp} {pb:Addr} {us:List V} {bs:List Box} (h:gJ H pb us bs) (s:iQ H H'):gJ H' pb us bs:=⟨s _ _ h.at_,h.each.mono fun _ _ z=>z.same s⟩
def Within (bs:List Box) (ns:List Int):Prop:=tX (fun (b:Box) n=>b.lo<=n/\n<=b.hi) bs ns
theorem Within.sm {bs:List Box} {ns:List Int} (h:Within bs ns) (ok:∀ b∈bs,b.Ok):∀ n∈ns,-1000 < n/\n < 1000:=fun n hn=>by
 obtain ⟨i,hi,e⟩:=List.getElem_of_mem hn
 obtain ⟨b,n',hb,hn',h1,h2⟩:=h.get hi
 rw [List.getElem?_eq_getElem hi,e] at hn'
 cases hn'
 have:=ok b (List.mem_of_getElem? hb)
 have:=this.lo
 have:=(ok b (List.mem_of_getElem? hb)).hi
 constructor <;> omega
inductive Say where
 | is_ (a:Nat) (n:Int) | frm (a:Nat) (n:Int) | to_ (a:Nat) (n:Int) | rest (a:Nat) (m r:Int) | eith (a:Nat) (n k:Int) | nev (a:Nat) (n:Int)
 | same (a b:Nat) | below (a b:Nat) | most (a b:Nat) | gap (a b:Nat) (n:Int) | sum (a b:Nat) (n:Int) | adds (a b c:Nat) | times (a b c:Nat)
 deriving DecidableEq
def Say.tup:Say->List V
 | .is_ a n=>[.str "is",.int a,.int n]
 | .frm a n=>[.str "from",.int a,.int n]
 | .to_ a n=>[.str "to",.int a,.int n]
 | .rest a m r=>[.str "rest",.int a,.int m,.int r]
 | .eith a n k=>[.str "either",.int a,.int n,.int k]
 | .nev a n=>[.str "never",.int a,.int n]
 | .same a b=>[.str "same",.int a,.int b]
 | .below a b=>[.str "below",.int a,.int b]
 | .most a b=>[.str "most",.int a,.int b]
 | .gap a b n=>[.str "gap",.int a,.int b,.int n]
 | .sum a b n=>[.str "sum",.int a,.int b,.int n]
 | .adds a b c=>[.str "adds",.int a,.int b,.int c]
 | .times a b c=>[.str "times",.int a,.int b,.int c]
def Say.so1 (x:Int):Say->Bool
 | .is_ _ n=>x == n
 | .frm _ n=>decide (n<=x)
 | .to_ _ n=>decide (x<=n)
 | .rest _ m r=>(x - r) % m == 0
 | .eith _ n k=>x == n || x == k
 | .nev _ n=>!(x == n)
 | _=>false
def Say.so2 (x y:Int):Say->Bool
 | .same _ _=>x == y
 | .below _ _=>decide (x < y)
 | .most _ _=>decide (x<=y)
 | .gap _ _ n=>x - y == n
 | .sum _ _ n=>x + y == n
 | _=>false
def Say.fst:Say->Nat
 | .is_ a _ | .frm a _ | .to_ a _ | .rest a _ _ | .eith a _ _ | .nev a _ | .same a _ | .below a _ | .most a _ | .gap a _ _ | .sum a _ _ | .adds a _ _ | .times a _ _=>a
def Say.so (vs:List Int) (s:Say):Bool:=match s with
 | .adds a b c=>vs.getD a 0 + vs.getD b 0 == vs.getD c 0
 | .times a b c=>vs.getD a 0 * vs.getD b 0 == vs.getD c 0
 | .same a b | .below a b | .most a b | .gap a b _ | .sum a b _=>s.so2 (vs.getD a 0) (vs.getD b 0)
 | .is_ a _ | .frm a _ | .to_ a _ | .rest a _ _ | .eith a _ _ | .nev a _=>s.so1 (vs.getD a 0)
def Say.one:Say->Bool
 | .is_ _ _ | .frm _ _ | .to_ _ _ | .rest _ _ _ | .eith _ _ _ | .nev _ _=>true
 | _=>false
def Say.In (many:Nat):Say->Prop
 | .is_ a _ | .frm a _ | .to_ a _ | .eith a _ _ | .nev a _=>a < many
 | .rest a m _=>a < many/\0 < m
 | .same a b | .below a b | .most a b | .gap a b _ | .sum a b _=>a < many/\b < many
 | .adds a b c | .times a b c=>a < many/\b < many/\c < many
theorem rV {b:Bool} {A B:Prop} (h:b=true) (a:A):if b=true then A else B:=by rw [if_pos h]; exact a
theorem nJ {b:Bool} {A B:Prop} (h:b=false) (a:B):if b=true then A else B:=by rw [if_neg (by rw [h]; decide)]; exact a
theorem zJ {Q:VK} {H:Hp} {b c:Bool} (q:Q (.bl c) H) (e:b=c):Q (.bl b) H:=e ▸ q
theorem mZ {ns:List Int} {a:Nat} (h:a < ns.length):atI (ns.map V.int) ((a:Nat):Int)=some (.int (ns.getD a 0)):=by
 refine oX ?_
 rw [List.getElem?_map,List.getElem?_eq_getElem h,List.getD_eq_getElem?_getD,List.getElem?_eq_getElem h]
 rfl
def spIsOne:Sp:=fun vs H Q _=>∃ (p:Addr) (s:Say) (x:Int),vs=[.ref p,.int x]/\H p=some (.tup s.tup)/\s.one=true/\s.In (s.fst + 1)/\Q (.bl (s.so1 x)) H
def spIsTwo:Sp:=fun vs H Q _=>∃ (p:Addr) (s:Say) (x y:Int),vs=[.ref p,.int x,.int y]/\H p=some (.tup s.tup)/\(match s with | .same _ _ | .below _ _ | .most _ _ | .gap _ _ _ | .sum _ _ _=>True | _=>False)/\Q (.bl (s.so2 x y)) H
def spIsSo:Sp:=fun vs H Q _=>∃ (p q:Addr) (s:Say) (ns:List Int),vs=[.ref p,.ref q]/\H p=some (.tup s.tup)/\H q=some (.tup (ns.map V.int))/\s.In ns.length/\(∀ n∈ns,-1000 < n/\n < 1000)/\Q (.bl (s.so ns)) H
theorem j3Q {ns:List Int} {a:Nat} (h:a < ns.length):ns.getD a 0∈ns:=by
 rw [List.getD_eq_getElem?_getD,List.getElem?_eq_getElem h]
 exact List.getElem_mem h
section
theorem w0Z:yQ ["saying","a","form"] ["saying","a"] (gQ eW):=(by wtm_at "f")
theorem q5Z (h:Has K mg "is_so_of_one" eW ["saying","a"]):Cal P w K mg base 1 "is_so_of_one" ["saying","a"] spIsOne:=by
 refine h.cal w0Z (fun vs H Q E h=>?_) (fun f cdv A outer s H vs Q E hr h=>?_)
 ·obtain ⟨p,s,x,rfl,_⟩:=h
  rfl
 obtain ⟨p,s,x,rfl,hp,h1,hi,q⟩:=h
 refine ⟨_,(bQ (qQ (i:=2) w0Z.nd rfl (Or.inl rfl) (mQ pQ (pv 0) cQ (fun _ _=>rfl)))
  (bQ (cZ (rQ aZ (pv 2) tQ (nQ _)) (fQ (oQ (lZ aZ (pv 1) (mQ pQ (pv 0) cQ (fun _ _=>rfl)) (nQ _)))) sQ)
  (bQ (cZ (rQ aZ (pv 2) tQ (nQ _)) (fQ (oQ (lZ b4Z (pv 1) (mQ pQ (pv 0) cQ (fun _ _=>rfl)) (nQ _)))) sQ)
  (bQ (cZ (rQ aZ (pv 2) tQ (nQ _)) (fQ (oQ (lZ r4Q (pv 1) (mQ pQ (pv 0) cQ (fun _ _=>rfl)) (nQ _)))) sQ)
  (bQ (cZ (rQ aZ (pv 2) tQ (nQ _)) (fQ (oQ (lZ aZ (lQ gZ (lQ eJ (pv 1) (mQ pQ (pv 0) cQ (fun _ _=>rfl))) (mQ pQ (pv 0) cQ (fun _ _=>rfl))) cQ (nQ _)))) sQ)
  (bQ (cZ (rQ aZ (pv 2) tQ (nQ _)) (fQ (oQ (z3Z (lZ aZ (pv 1) (mQ pQ (pv 0) cQ (fun _ _=>rfl)) (nQ _)) (y5Q (lZ aZ (pv 1) (mQ pQ (pv 0) cQ (fun _ _=>rfl)) (nQ _)))))) sQ)
  (fQ (oQ (lZ b0Q (pv 1) (mQ pQ (pv 0) cQ (fun _ _=>rfl)) (nQ _)))))))))),?_⟩
 cases s with
 | is_ a n =>
  wtm_at "ss"
  exact zJ q gX
 | frm a n =>
  wtm_at "ss"
  exact q
 | to_ a n =>
  wtm_at "ss"
  exact q
 | rest a m r =>
  have hm:0 < m:=hi.2
  wtm_at "ss"
  exact zJ q gX
 | eith a n k =>
  wtm_at "ss"
  refine sX (fun c=>?_) (fun c=>?_)
  ·refine zJ q ?_
   show true=(x == n || x == k)
   simp [V.int.inj c]
  ·wtm_at "ss"
   refine zJ q ?_
   rw [gX]
   show _=(x == n || x == k)
   have:(x == n)=false:=by
    rw [beq_eq_false_iff_ne]
    intro z
    exact c (by rw [z])
   rw [this,Bool.false_or]
 | nev a n =>
  wtm_at "ss"
  exact zJ q (by rw [gX]; rfl)
 | _=>exact absurd h1 Bool.false_ne_true
theorem x0Z:yQ ["saying","a","b","form"] ["saying","a","b"] (gQ fW):=(by wtm_at "f")
theorem r5Z (h:Has K mg "is_so_of_two" fW ["saying","a","b"]):Cal P w K mg base 1 "is_so_of_two" ["saying","a","b"] spIsTwo:=by
 refine h.cal x0Z (fun vs H Q E h=>?_) (fun f cdv A outer s H vs Q E hr h=>?_)
 ·obtain ⟨p,s,x,y,rfl,_⟩:=h
  rfl
 obtain ⟨p,s,x,y,rfl,hp,h2,q⟩:=h
 refine ⟨_,(bQ (qQ (i:=3) x0Z.nd rfl (Or.inl rfl) (mQ pQ (pv 0) cQ (fun _ _=>rfl)))
  (bQ (cZ (rQ aZ (pv 3) tQ (nQ _)) (fQ (oQ (lZ aZ (pv 1) (pv 2) (nQ _)))) sQ)
  (bQ (cZ (rQ aZ (pv 3) tQ (nQ _)) (fQ (oQ (lZ q4Q (pv 1) (pv 2) (nQ _)))) sQ)
  (bQ (cZ (rQ aZ (pv 3) tQ (nQ _)) (fQ (oQ (lZ r4Q (pv 1) (pv 2) (nQ _)))) sQ)
  (bQ (cZ (rQ aZ (pv 3) tQ (nQ _)) (fQ (oQ (lZ aZ (lQ eJ (pv 1) (pv 2)) (mQ pQ (pv 0) cQ (fun _ _=>rfl)) (nQ _)))) sQ)
  (fQ (oQ (lZ aZ (lQ hZ (pv 1) (pv 2)) (mQ pQ (pv 0) cQ (fun _ _=>rfl)) (nQ _))))))))),?_⟩
 cases s with
 | same a b =>
  wtm_at "ss"
  exact zJ q gX
 | below a b =>
  wtm_at "ss"
  exact q
 | most a b =>
  wtm_at "ss"
  exact q
 | gap a b n =>
  wtm_at "ss"
  exact zJ q gX
 | sum a b n =>
  wtm_at "ss"
  exact zJ q gX
 | _=>exact h2.elim
theorem j6Q:yQ ["saying","values","form","a","b"] ["saying","values"] (gQ e1Q):=(by wtm_at "f")
theorem p8Z (h:Has K mg "is_so" e1Q ["saying","values"]) (g:Glb K mg) (c1:Cal P w K mg base 1 "is_so_of_one" ["saying","a"] spIsOne) (c2:Cal P w K mg base 1 "is_so_of_two" ["saying","a","b"] spIsTwo):Cal P w K mg base 2 "is_so" ["saying","values"] spIsSo:=by
 refine h.cal j6Q (fun vs H Q E h=>?_) (fun f cdv A outer s H vs Q E hr h=>?_)
 ·obtain ⟨p,q,s,ns,rfl,_⟩:=h
  rfl
 obtain ⟨p,q,s,ns,rfl,hp,hq,hi,hb,k⟩:=h
 obtain ⟨ga,gm,gS⟩:=g.OF_ONE_BOX
 refine ⟨_,(bQ (qQ (i:=2) j6Q.nd rfl (Or.inl rfl) (mQ pQ (pv 0) cQ (fun _ _=>rfl)))
  (bQ (qQ (i:=3) j6Q.nd rfl (Or.inl rfl) (mQ pQ (pv 1) (mQ pQ (pv 0) cQ (fun _ _=>rfl)) (fun _ _=>rfl)))
  (bQ (cZ (rQ d2Z (pv 2) (n7Z (v:=.ref ga) rfl gm rfl) (by with_unfolding_all rfl)) (fQ (oQ (wQ c1 hr rfl (aQ (pv 0) (aQ (pv 3) eQ))))) sQ)
  (bQ (qQ (i:=4) j6Q.nd rfl (Or.inl rfl) (mQ pQ (pv 1) (mQ pQ (pv 0) cQ (fun _ _=>rfl)) (fun _ _=>rfl)))
  (bQ (cZ (rQ aZ (pv 2) tQ (nQ _)) (fQ (oQ (lZ aZ (lQ hZ (pv 3) (pv 4)) (mQ pQ (pv 1) (mQ pQ (pv 0) cQ (fun _ _=>rfl)) (fun _ _=>rfl)) (nQ _)))) sQ)
  (bQ (cZ (rQ aZ (pv 2) tQ (nQ _)) (fQ (oQ (lZ aZ (lQ aJ (pv 3) (pv 4)) (mQ pQ (pv 1) (mQ pQ (pv 0) cQ (fun _ _=>rfl)) (fun _ _=>rfl)) (nQ _)))) sQ)
  (fQ (oQ (wQ c2 hr rfl (aQ (pv 0) (aQ (pv 3) (aQ (pv 4) eQ)))))))))))),?_⟩
 cases s with
 | is_ a n =>
  have ha:a < ns.length:=hi
  wtm_at "ss"
  refine ⟨q,_,_,_,rfl,rfl,SqT.of hq,mZ ha,?_⟩
  refine ⟨_,rfl,ga,_,rfl,.inr (gS _),rfl,rfl,_,rfl,?_⟩
  exact ⟨_,rfl,_,rfl,p,_,_,rfl,hp,rfl,Nat.lt_succ_self _,k⟩
 | frm a n =>
  have ha:a < ns.length:=hi
  wtm_at "ss"
  refine ⟨q,_,_,_,rfl,rfl,SqT.of hq,mZ ha,?_⟩
  refine ⟨_,rfl,ga,_,rfl,.inr (gS _),rfl,rfl,_,rfl,?_⟩
  exact ⟨_,rfl,_,rfl,p,_,_,rfl,hp,rfl,Nat.lt_succ_self _,k⟩
 | to_ a n =>
  have ha:a < ns.length:=hi
  wtm_at "ss"
  refine ⟨q,_,_,_,rfl,rfl,SqT.of hq,mZ ha,?_⟩
  refine ⟨_,rfl,ga,_,rfl,.inr (gS _),rfl,rfl,_,rfl,?_⟩
  exact ⟨_,rfl,_,rfl,p,_,_,rfl,hp,rfl,Nat.lt_succ_self _,k⟩
 | rest a m r =>
  have ha:a < ns.length:=hi.1
  wtm_at "ss"
  refine ⟨q,_,_,_,rfl,rfl,SqT.of hq,mZ ha,?_⟩
  refine ⟨_,rfl,ga,_,rfl,.inr (gS _),rfl,rfl,_,rfl,?_⟩
  exact ⟨_,rfl,_,rfl,p,_,_,rfl,hp,rfl,⟨Nat.lt_succ_self _,hi.2⟩,k⟩
 | eith a n m =>
  have ha:a < ns.length:=hi
  wtm_at "ss"
  refine ⟨q,_,_,_,rfl,rfl,SqT.of hq,mZ ha,?_⟩
  refine ⟨_,rfl,ga,_,rfl,.inr (gS _),rfl,rfl,_,rfl,?_⟩
  exact ⟨_,rfl,_,rfl,p,_,_,rfl,hp,rfl,Nat.lt_succ_self _,k⟩
 | nev a n =>
  have ha:a < ns.length:=hi
  wtm_at "ss"
  refine ⟨q,_,_,_,rfl,rfl,SqT.of hq,mZ ha,?_⟩
  refine ⟨_,rfl,ga,_,rfl,.inr (gS _),rfl,rfl,_,rfl,?_⟩
  exact ⟨_,rfl,_,rfl,p,_,_,rfl,hp,rfl,Nat.lt_succ_self _,k⟩
 | same a b =>
  have ha:a < ns.length:=hi.1
  have hb':b < ns.length:=hi.2
  wtm_at "ss"
  refine ⟨q,_,_,_,rfl,rfl,SqT.of hq,mZ ha,?_⟩
  refine ⟨_,rfl,ga,_,rfl,.inr (gS _),rfl,rfl,_,rfl,?_⟩
  wtm_at "ss"
  refine ⟨q,_,_,_,rfl,rfl,SqT.of hq,mZ hb',?_⟩
  wtm_at "ss"
  exact ⟨p,_,_,_,rfl,hp,trivial,k⟩
 | below a b =>
  have ha:a < ns.length:=hi.1
  have hb':b < ns.length:=hi.2
  wtm_at "ss"
  refine ⟨q,_,_,_,rfl,rfl,SqT.of hq,mZ ha,?_⟩
  refine ⟨_,rfl,ga,_,rfl,.inr (gS _),rfl,rfl,_,rfl,?_⟩
  wtm_at "ss"
  refine ⟨q,_,_,_,rfl,rfl,SqT.of hq,mZ hb',?_⟩
  wtm_at "ss"
  exact ⟨p,_,_,_,rfl,hp,trivial,k⟩
 | most a b =>
  have ha:a < ns.length:=hi.1
  have hb':b < ns.length:=hi.2
  wtm_at "ss"
  refine ⟨q,_,_,_,rfl,rfl,SqT.of hq,mZ ha,?_⟩
  refine ⟨_,rfl,ga,_,rfl,.inr (gS _),rfl,rfl,_,rfl,?_⟩
  wtm_at "ss"
  refine ⟨q,_,_,_,rfl,rfl,SqT.of hq,mZ hb',?_⟩
  wtm_at "ss"
  exact ⟨p,_,_,_,rfl,hp,trivial,k⟩
 | gap a b n =>
  have ha:a < ns.length:=hi.1
  have hb':b < ns.length:=hi.2
  wtm_at "ss"
  refine ⟨q,_,_,_,rfl,rfl,SqT.of hq,mZ ha,?_⟩
  refine ⟨_,rfl,ga,_,rfl,.inr (gS _),rfl,rfl,_,rfl,?_⟩
  wtm_at "ss"
  refine ⟨q,_,_,_,rfl,rfl,SqT.of hq,mZ hb',?_⟩
  wtm_at "ss"
  exact ⟨p,_,_,_,rfl,hp,trivial,k⟩
 | sum a b n =>
  have ha:a < ns.length:=hi.1
  have hb':b < ns.length:=hi.2
  wtm_at "ss"
  refine ⟨q,_,_,_,rfl,rfl,SqT.of hq,mZ ha,?_⟩
  refine ⟨_,rfl,ga,_,rfl,.inr (gS _),rfl,rfl,_,rfl,?_⟩
  wtm_at "ss"
  refine ⟨q,_,_,_,rfl,rfl,SqT.of hq,mZ hb',?_⟩
  wtm_at "ss"
  exact ⟨p,_,_,_,rfl,hp,trivial,k⟩
 | adds a b c =>
  have ha:a < ns.length:=hi.1
  have hb':b < ns.length:=hi.2.1
  have hc:c < ns.length:=hi.2.2
  wtm_at "ss"
  refine ⟨q,_,_,_,rfl,rfl,SqT.of hq,mZ ha,?_⟩
  refine ⟨_,rfl,ga,_,rfl,.inr (gS _),rfl,rfl,_,rfl,?_⟩
  wtm_at "ss"
  refine ⟨q,_,_,_,rfl,rfl,SqT.of hq,mZ hb',?_⟩
  wtm_at "ss"
  refine ⟨q,_,_,_,rfl,rfl,SqT.of hq,mZ hc,?_⟩
  wtm_at "ss"
  exact zJ k gX
 | times a b c =>
  have ha:a < ns.length:=hi.1
  have hb':b < ns.length:=hi.2.1
  have hc:c < ns.length:=hi.2.2
  wtm_at "ss"
  refine ⟨q,_,_,_,rfl,rfl,SqT.of hq,mZ ha,?_⟩
  refine ⟨_,rfl,ga,_,rfl,.inr (gS _),rfl,rfl,_,rfl,?_⟩
  wtm_at "ss"
  refine ⟨q,_,_,_,rfl,rfl,SqT.of hq,mZ hb',?_⟩
  wtm_at "ss"
  have hb1:=hb _ (j3Q ha)
  refine ⟨cmw (by omega) (by omega),?_⟩
  wtm_at "ss"
  refine ⟨q,_,_,_,rfl,rfl,SqT.of hq,mZ hc,?_⟩
  wtm_at "ss"
  exact zJ k gX
end
def rng (b:Box):List Int:=(List.range b.size).map fun k=>b.lo + (k:Nat)
def zZ (vs:List (List Int)) (b:Box):List (List Int):=vs.flatMap fun v=>(rng b).map fun n=>v++[n]
def wZ (bs:List Box):List (List Int):=bs.foldl zZ [[]]
theorem dO (b:Box):(rng b).length=b.size:=by unfold rng; rw [List.length_map,List.length_range]
theorem uK (b:Box):∀ vs:List (List Int),(zZ vs b).length=vs.length * b.size
 | []=>by simp [zZ]
 | v :: r=>by
  have:=uK b r
  unfold zZ at this ⊢
  rw [List.flatMap_cons,List.length_append,this,List.length_map,dO,List.length_cons,Nat.succ_mul]
  omega
theorem k3Q:∀ (bs:List Box) (acc:List (List Int)),(bs.foldl zZ acc).length=acc.length * vol bs
 | [],acc=>by simp [vol]
 | b :: r,acc=>by
  rw [List.foldl_cons,k3Q r,uK]
  show acc.length * b.size * vol r=acc.length * (b.size * vol r)
  rw [Nat.mul_assoc]
theorem y0Z:∀ {bs:List Box},(∀ b∈bs,b.Ok)->1<=vol bs
 | [],_=>Nat.le_refl 1
 | b :: t,h=>by
  have hb:=h b List.mem_cons_self
  have h1:1<=b.size:=by unfold Box.size; have:=hb.fl; have:=hb.fh; omega
  exact Nat.mul_le_mul h1 (y0Z fun c hc=>h c (List.mem_cons_of_mem _ hc))
theorem s5Z {bs:List Box} (ok:∀ b∈bs,b.Ok) (i:Nat):vol (bs.take i)<=vol bs:=by
 have e:vol bs=vol (bs.take i) * vol (bs.drop i):=by rw [<-j2Q,List.take_append_drop]
 have h:=y0Z (bs:=bs.drop i) fun b hb=>ok b (List.mem_of_mem_drop hb)
 have:=Nat.mul_le_mul_left (vol (bs.take i)) h
 omega
theorem z0Z {b:Box} {n:Int} (ok:b.Ok):n∈rng b ↔ b.lo<=n/\n<=b.hi:=by
 unfold rng
 rw [List.mem_map]
 constructor
 ·rintro ⟨k,hk,rfl⟩
  have:=List.mem_range.mp hk
  unfold Box.size at this
  constructor <;> omega
 ·rintro ⟨h1,h2⟩
  refine ⟨(n - b.lo).toNat,List.mem_range.mpr ?_,by omega⟩
  unfold Box.size
  omega
theorem l3Q:∀ {bs pre:List Box} {acc:List (List Int)} {v:List Int},(∀ b∈bs,b.Ok)->(∀ v∈acc,Within pre v)->v∈bs.foldl zZ acc->Within (pre++bs) v
 | [],pre,acc,v,_,ha,h=>by rw [List.append_nil]; exact ha v h
 | b :: r,pre,acc,v,ok,ha,h=>by
  rw [List.foldl_cons] at h
  have:=l3Q (bs:=r) (pre:=pre++[b]) (acc:=zZ acc b) (v:=v) (fun c hc=>ok c (List.mem_cons_of_mem _ hc)) (fun u hu=>?_) h
  ·rwa [List.append_assoc] at this
  ·obtain ⟨w,hw,hu⟩:=List.mem_flatMap.mp hu
   obtain ⟨n,hn,rfl⟩:=List.mem_map.mp hu
   exact (ha w hw).snoc ((z0Z (ok b List.mem_cons_self)).mp hn)
theorem mU {bs:List Box} {v:List Int} (ok:∀ b∈bs,b.Ok) (h:v∈wZ bs):Within bs v:=by
 have:=l3Q (bs:=bs) (pre:=[]) (acc:=[[]]) (v:=v) ok (fun u hu=>by rw [List.mem_singleton.mp hu]; exact tX.nil) h
 simpa using this
theorem lV (bs:List Box):(wZ bs).length=vol bs:=by
 unfold wZ
 rw [k3Q]
 simp
def mO (H:Hp) (v:V) (ns:List Int):Prop:=∃ p,v = .ref p/\H p=some (.tup (ns.map V.int))
def mV (H:Hp) (v:V) (s:Say):Prop:=∃ p,v = .ref p/\H p=some (.tup s.tup)
structure mJ (H:Hp) (pl:Addr) (us:List V) (vs:List (List Int)):Prop where
 at_:H pl=some (.lst us)
 each:tX (mO H) us vs
theorem mO.same {H H':Hp} {v:V} {b:List Int} (h:mO H v b) (s:iQ H H'):mO H' v b:=by
 obtain ⟨p,rfl,hp⟩:=h
 exact ⟨p,rfl,s _ _ hp⟩
theorem mV.same {H H':Hp} {v:V} {b:Say} (h:mV H v b) (s:iQ H H'):mV H' v b:=by
 obtain ⟨p,rfl,hp⟩:=h
 exact ⟨p,rfl,s _ _ hp⟩
theorem mV.put {H:Hp} {l:Addr} {xs ys:List V} {v:V} {b:Say} (h:mV H v b) (hl:H l=some (.lst xs)):mV (upd H l (.lst ys)) v b:=by
 obtain ⟨p,rfl,hp⟩:=h
 exact ⟨p,rfl,by rw [kQ (zO hp hl (fun z=>nomatch z))]; exact hp⟩
theorem mO.put {H:Hp} {l:Addr} {xs ys:List V} {v:V} {b:List Int} (h:mO H v b) (hl:H l=some (.lst xs)):mO (upd H l (.lst ys)) v b:=by
 obtain ⟨p,rfl,hp⟩:=h
 exact ⟨p,rfl,by rw [kQ (zO hp hl (fun z=>nomatch z))]; exact hp⟩
theorem i3Q.put {H:Hp} {l:Addr} {xs ys:List V} {v:V} {b:Box} (h:i3Q H v b) (hl:H l=some (.lst xs)):i3Q (upd H l (.lst ys)) v b:=by
 obtain ⟨p,rfl,hp⟩:=h
 exact ⟨p,rfl,by rw [kQ (zO hp hl (fun z=>nomatch z))]; exact hp⟩
theorem mJ.same {H H':Hp} {pl:Addr} {us:List V} {vs:List (List Int)} (h:mJ H pl us vs) (s:iQ H H'):mJ H' pl us vs:=⟨s _ _ h.at_,h.each.mono fun _ _ z=>z.same s⟩
theorem pJ {α β:Type} {R:α->β->Prop} {xs us:List α} {ys vs:List β} (h:tX R xs ys) (g:tX R us vs):tX R (xs++us) (ys++vs):=by
 have hl:=h.1
 have gl:=g.1
 refine ⟨by simp [hl,gl],fun i a b ha hb=>?_⟩
 by_cases hi:i < xs.length
 ·rw [List.getElem?_append_left hi] at ha
  rw [List.getElem?_append_left (by omega)] at hb
  exact h.2 i a b ha hb
 ·rw [List.getElem?_append_right (by omega)] at ha
  rw [List.getElem?_append_right (by omega),<-hl] at hb
  exact g.2 _ a b ha hb
def spLengthened:Sp:=fun vs H Q _=>∃ (pl pbx:Addr) (us:List V) (vl:List (List Int)) (b:Box),vs=[.ref pl,.ref pbx]/\mJ H pl us vl/\H pbx=some (.tup b.tup)/\b.Ok/\vl.length * b.size<=400/\(∀ v∈vl,v.length<=1000) /\
 ∀ (p:Addr) (us':List V) (H':Hp),H p=none->iQ H H'->mJ H' p us' (zZ vl b)->Q (.ref p) H'
section
theorem vK:yQ ["some","box","told","values"] ["some","box"] (gQ fJ):=(by wtm_at "f")
theorem n4Q (h:Has K mg "lengthened" fJ ["some","box"]) (B:Blt mg):Cal P w K mg base 1 "lengthened" ["some","box"] spLengthened:=by
 refine h.cal vK (fun vs H Q E h=>?_) (fun f cdv A outer s H vs Q E hr h=>?_)
 ·obtain ⟨pl,pbx,us,vl,b,rfl,_⟩:=h
  rfl
 obtain ⟨pl,pbx,us,vl,b,rfl,X,hb,bok,h400,hvl4,q⟩:=h
 refine ⟨_,(bQ (qQ (i:=2) vK.nd rfl (Or.inl rfl) (jX eQ))
  (bQ (uZ PassesOwn.never rfl (xZ (pv 0)) (uQ (i:=3) vK.nd rfl (Or.inr rfl)) (fQ (lX (iV PySem.F.plainAttrs_list PySem.F.slot_list_extend PySem.F.type_list_extend b5Q (pv 2) (aQ (nY (gQ fJ) ["some","box","told","values"] (N:=["n","values"]) (ix:=[none,some 3]) rfl (by wtm_at "g") (t1Z rfl B.range (aQ (mQ pQ (pv 1) cQ (fun _ _=>rfl)) (aQ (lQ hZ (mQ pQ (pv 1) cQ (fun _ _=>rfl)) cQ) eQ))) (fun _ _ _ _=>uQ (i:=0) (show (["n","values"]:List Str).Nodup by decide +kernel) rfl (Or.inl rfl)) (fun _ _ _ _=>bW) (fun _ _ _ _=>(lQ f2Q (pv 1) (iZ (aQ (pv 0) eQ))))) eQ)))))
  (fQ (oQ (pv 2))))),?_⟩
 refine ⟨(by show 0<=sizeLine; decide),fun p hp=>?_⟩
 have hb1:=bok.fl
 have hb2:=bok.fh
 have hb3:=bok.lo
 have hb4:=bok.hi
 refine ⟨_,rfl,pl,rfl,⟨us,SqL.of (iQ.new hp _ _ _ X.at_)⟩,kX (K:=K) (a:=pl) (xs:=us) (fun i σ H2=>∃ (us':List V) (c3:Option V),σ=[some (.ref pl),some (.ref pbx),some (.ref p),c3]/\mJ H2 p us' (zZ (vl.take i) b)/\iQ H H2)
  ⟨[],none,rfl,⟨dQ,tX.nil⟩,iQ.new hp _⟩ (fun i σ H2 _ ⟨_,_,_,_,s2⟩=>SqL.of (s2 _ _ X.at_)) ?_ ?_⟩
 ·rintro i x σ H2 hi ⟨us',c3,rfl,X2,s2⟩
  obtain ⟨v,hv,pq,rfl,hpq⟩:=X.each.at hi
  have hvl:vl.length * b.size=(zZ vl b).length:=(uK b vl).symm
  have hlt:us'.length + b.size<=400:=by
   rw [X2.each.1,uK,<-Nat.succ_mul]
   refine Nat.le_trans (Nat.mul_le_mul_right _ ?_) h400
   have:=(List.getElem?_eq_some_iff.mp hv).1
   rw [List.length_take]
   omega
  refine ⟨_,rfl,.inl ⟨rfl,_,SqL.of X2.at_⟩,?_⟩
  refine ⟨_,rfl,pbx,_,_,_,rfl,rfl,SqT.of (s2 _ _ hb),rfl,_,rfl,pbx,_,_,_,rfl,rfl,SqT.of (s2 _ _ hb),rfl,_,_,rfl,rfl,_,_,rfl,⟨by omega,by omega,by omega,by omega⟩,fun D hD=>?_⟩
  have hDH:H D=none:=by
   cases e:H D with
   | none=>rfl
   | some o=>rw [s2 _ _ e] at hD; cases hD
  refine b3Q (lo:=b.lo) (n:=(b.hi + 1 - b.lo).toNat) (fun j ys σ H3=>∃ c0:Option V,σ=[c0,some (.ref pq)]/\H3 D=some (.lst ys)/\tX (mO H3) ys (((rng b).take j).map fun n=>v++[n])/\iQ H2 H3)
   ⟨none,rfl,dQ,tX.nil,iQ.new hD _⟩ ?_ ?_
  ·rintro j ys σ H3 hj ⟨c0,rfl,hD3,A3,s3⟩
   have hj':j < b.size:=by unfold Box.size; omega
   have hyl:ys.length<=400:=by
    rw [A3.1,List.length_map,List.length_take,dO]
    omega
   refine d3Q ⟨_,rfl,_,rfl,(by show 1<=sizeLine; decide),fun pt hpt=>?_⟩
   have s4:=iQ.new hpt (.tup [.int (b.lo + (j:Int))])
   have s24:=s3.trans s4
   have hvb:v.length<=1000:=hvl4 v (List.mem_of_getElem? hv)
   refine ⟨pq,pt,v.map V.int,[.int (b.lo + (j:Int))],rfl,rfl,s24 _ _ (s2 _ _ hpq),dQ,?_,fun p5 H5 s5 h5=>?_⟩
   ·rw [List.length_map]
    exact sz' (by simp; omega)
   have s35:=s4.trans s5
   have hD5:=s35 _ _ hD3
   refine ⟨hD5,eZ (by omega),_,rfl,dQ,?_,fun c o e=>?_⟩
   ·have hr:(rng b)[j]?=some (b.lo + (j:Int)):=by
     unfold rng
     rw [List.getElem?_map,List.getElem?_range hj']
     rfl
    rw [List.take_add_one,hr,List.map_append]
    refine ((A3.mono fun _ _ z=>(z.same s35).put hD5)).snoc (mO.put ⟨p5,rfl,?_⟩ hD5)
    rw [h5,List.map_append]
    rfl
   ·rw [kQ (jQ e hD)]
    exact s35 _ _ (s3 _ _ e)
  rintro ys σ H3 ⟨c0,rfl,hD3,A3,s3⟩
  have ej:(b.hi + 1 - b.lo).toNat=b.size:=by unfold Box.size; congr 1; omega
  rw [ej,List.take_of_length_le (by rw [dO]; exact Nat.le_refl _)] at A3
  have X3:=X2.same s3
  have hyl:ys.length=b.size:=by rw [A3.1,List.length_map,dO]
  refine ⟨p,D,us',ys,rfl,rfl,X3.at_,hD3,small (by omega),?_⟩
  refine ⟨us'++ys,_,rfl,⟨dQ,?_⟩,fun c o e=>?_⟩
  ·rw [List.take_add_one,hv]
   unfold zZ
   rw [List.flatMap_append]
   refine pJ (X3.each.mono fun _ _ z=>z.put X3.at_) ?_
   rw [show (Option.toList (some v))=[v] from rfl,List.flatMap_cons,List.flatMap_nil,List.append_nil]
   exact A3.mono fun _ _ z=>z.put X3.at_
  ·rw [kQ (jQ e hp)]
   exact s3 _ _ (s2 _ _ e)
 ·rintro σ H2 ⟨us',c3,rfl,X2,s2⟩
  rw [X.each.1,List.take_length] at X2
  exact ⟨_,rfl,q p us' H2 hp s2 X2⟩
end
def spAllValues:Sp:=fun vs H Q _=>∃ (pp pb:Addr) (pw:V) (us:List V) (bs:List Box),vs=[.ref pp]/\H pp=some (.tup [.ref pb,pw])/\gJ H pb us bs/\(∀ b∈bs,b.Ok)/\bs.length<=4/\vol bs<=400 /\
 ∀ (p:Addr) (us':List V) (H':Hp),H p=none->iQ H H'->mJ H' p us' (wZ bs)->Q (.ref p) H'
theorem iQ.free {H H':Hp} {p:Addr} (s:iQ H H') (h:H' p=none):H p=none:=by
 cases e:H p with
 | none=>rfl
 | some o=>rw [s _ _ e] at h; cases h
section
theorem m3Q {bs:List Box} (ok:∀ b∈bs,b.Ok) (h4:bs.length<=4) (i:Nat):∀ v∈(bs.take i).foldl zZ [[]],v.length<=1000:=fun v hv=>by
 have:=l3Q (bs:=bs.take i) (pre:=[]) (acc:=[[]]) (v:=v) (fun b hb=>ok b (List.mem_of_mem_take hb)) (fun u hu=>by rw [List.mem_singleton.mp hu]; exact tX.nil) hv
 have:=this.1
 rw [List.nil_append,List.length_take] at this
 omega
theorem l5Q {bs:List Box} {b:Box} {i:Nat} (h:bs[i]?=some b):(bs.take (i + 1)).foldl zZ [[]]=zZ ((bs.take i).foldl zZ [[]]) b:=by
 rw [List.take_add_one,h,List.foldl_append]
 rfl
theorem x7Q {bs:List Box} {b:Box} {i:Nat} (ok:∀ b∈bs,b.Ok) (h:bs[i]?=some b) (hv:vol bs<=400):((bs.take i).foldl zZ [[]]).length * b.size<=400:=by
 have h1:=s5Z ok (i + 1)
 have e:vol (bs.take (i + 1))=((bs.take i).foldl zZ [[]]).length * b.size:=by
  rw [k3Q,List.take_add_one,h,j2Q]
  show vol (bs.take i) * (b.size * 1)=1 * vol (bs.take i) * b.size
  rw [Nat.mul_one,Nat.one_mul]
 omega
theorem oY:yQ ["program","told","box"] ["program"] (gQ gW):=(by wtm_at "f")
theorem k6Q (h:Has K mg "all_values" gW ["program"]) (cL:Cal P w K mg base 1 "lengthened" ["some","box"] spLengthened):Cal P w K mg base 2 "all_values" ["program"] spAllValues:=by
 refine h.cal oY (fun vs H Q E h=>?_) (fun f cdv A outer s H vs Q E hr h=>?_)
 ·obtain ⟨pp,pb,pw,us,bs,rfl,_⟩:=h
  rfl
 obtain ⟨pp,pb,pw,us,bs,rfl,hp,X,ok,h4,hv,q⟩:=h
 refine ⟨_,(bQ (qQ (i:=1) oY.nd rfl (Or.inl rfl) (jX (aQ (iZ eQ) eQ)))
  (bQ (uZ PassesOwn.never rfl (xZ (mQ pQ (pv 0) cQ (fun _ _=>rfl))) (uQ (i:=2) oY.nd rfl (Or.inl rfl)) (fQ (qQ (i:=1) oY.nd rfl (Or.inl rfl) (wQ cL hr rfl (aQ (pv 1) (aQ (pv 2) eQ))))))
  (fQ (oQ (pv 1))))),?_⟩
 refine ⟨(by show 0<=sizeLine; decide),fun pt hpt=>?_⟩
 have s1:=iQ.new hpt (.tup [])
 refine ⟨(by show 1<=sizeLine; decide),fun pl hpl=>?_⟩
 have s2:=iQ.new hpl (.lst [.ref pt])
 have s12:=s1.trans s2
 refine ⟨_,rfl,pp,_,_,_,rfl,rfl,SqT.of (s12 _ _ hp),rfl,pb,rfl,⟨us,SqL.of (s12 _ _ X.at_)⟩,kX (K:=K) (a:=pb) (xs:=us) (fun i σ H2=>∃ (p:Addr) (us':List V) (c2:Option V),σ=[some (.ref pp),some (.ref p),c2]/\H p=none/\mJ H2 p us' ((bs.take i).foldl zZ [[]])/\iQ H H2)
  ⟨pl,[.ref pt],none,rfl,iQ.free s1 hpl,⟨dQ,⟨rfl,fun i x y e1 e2=>?_⟩⟩,s12⟩ (fun i σ H2 _ ⟨_,_,_,_,_,_,s2⟩=>SqL.of (s2 _ _ X.at_)) ?_ ?_⟩
 ·rcases i with _ | i
  ·cases e1
   cases e2
   exact ⟨pt,rfl,s2 _ _ dQ⟩
  ·simp at e1
 ·rintro i x σ H2 hi ⟨p,us',c2,rfl,hpf,X2,s2⟩
  obtain ⟨b,hb,pq,rfl,hpq⟩:=X.each.at hi
  refine ⟨_,rfl,_,rfl,p,pq,us',_,b,rfl,X2,s2 _ _ hpq,ok b (List.mem_of_getElem? hb),x7Q ok hb hv,m3Q ok h4 i,fun p3 us3 H3 hp3 s3 X3=>?_⟩
  exact ⟨p3,us3,_,rfl,iQ.free s2 hp3,by rw [l5Q hb]; exact X3,s2.trans s3⟩
 ·rintro σ H2 ⟨p,us',c2,rfl,hpf,X2,s2⟩
  rw [X.each.1,List.take_length] at X2
  exact ⟨_,rfl,q p us' H2 hpf s2 X2⟩
theorem r2Z {α:Type} {f:α->Bool} {xs:List α} {x:α} (h:x∈xs) (e:f x=false):xs.all f=false:=by
 rw [List.all_eq_false]
 exact ⟨x,h,by rw [e]; exact Bool.false_ne_true⟩
theorem t5Z {α:Type} {f:α->Bool} {xs:List α} (h:∀ x∈xs,f x=true):xs.all f=true:=List.all_eq_true.mpr h
end
def bw (bs:List Bool):Nat:=bs.foldl (fun n b=>n * 2 + if b then 1 else 0) 0
theorem l6Q (bs:List Bool) (b:Bool):bw (bs++[b])=bw bs * 2 + if b then 1 else 0:=by
 unfold bw
 rw [List.foldl_append]
 rfl
def rowOf (vs:List (List Int)) (s:Say):Nat:=bw (vs.map fun v=>s.so v)
theorem m6Q (a b:Nat):Builtin.bitAnd (a:Int) (b:Int)=((a &&& b:Nat):Int):=by
 unfold Builtin.bitAnd
 rw [decide_eq_true (show (0:Int)<=(a:Int) by omega),decide_eq_true (show (0:Int)<=(b:Int) by omega)]
 rfl
def spBitsOf:Sp:=fun vs H Q _=>∃ (p:Addr) (ts:List Bool),vs=[.ref p]/\H p=some (.lst (ts.map V.bl))/\Q (.int (bw ts:Nat)) H
def spSoBits:Sp:=fun vs H Q _=>∃ (ps pe:Addr) (s:Say) (us:List V) (vl:List (List Int)) (many:Nat),vs=[.ref ps,.ref pe]/\H ps=some (.tup s.tup)/\mJ H pe us vl/\vl.length<=400/\s.In many/\(∀ v∈vl,v.length=many/\∀ n∈v,-1000 < n/\n < 1000) /\
 ∀ H',iQ H H'->Q (.int (rowOf vl s:Nat)) H'
section
theorem o0Q:yQ ["truths","bits","truth"] ["truths"] (gQ xY):=(by wtm_at "f")
theorem s2Z (h:Has K mg "bits_of" xY ["truths"]):Cal P w K mg base 1 "bits_of" ["truths"] spBitsOf:=by
 refine h.cal o0Q (fun vs H Q E h=>?_) (fun f cdv A outer s H vs Q E hr h=>?_)
 ·obtain ⟨p,ts,rfl,_⟩:=h
  rfl
 obtain ⟨p,ts,rfl,hp,q⟩:=h
 refine ⟨_,(bQ (qQ (i:=1) o0Q.nd rfl (Or.inl rfl) cQ)
  (bQ (uZ PassesOwn.never rfl (xZ (pv 0)) (uQ (i:=2) o0Q.nd rfl (Or.inl rfl)) (fQ (qQ (i:=1) o0Q.nd rfl (Or.inl rfl) (lQ hZ (lQ aJ (pv 1) cQ) (e7Q (lJ (pv 2)) cQ cQ)))))
  (fQ (oQ (pv 1))))),?_⟩
 refine ⟨_,rfl,p,rfl,⟨_,SqL.of hp⟩,kX (K:=K) (a:=p) (xs:=ts.map V.bl) (fun i σ H'=>(∃ c:Option V,σ=[some (.ref p),some (.int (bw (ts.take i):Nat)),c])/\H'=H)
  ⟨⟨none,rfl⟩,rfl⟩ (fun i σ H' _ ⟨_,e⟩=>by rw [e]; exact SqL.of hp) ?_ ?_⟩
 ·rintro i x σ H' hi ⟨⟨c,rfl⟩,e⟩
  rw [e]
  rw [List.getElem?_map] at hi
  obtain ⟨b,hb,rfl⟩:=Option.map_eq_some_iff.mp hi
  have hs:bw (ts.take (i + 1))=bw (ts.take i) * 2 + if b then 1 else 0:=by
   rw [List.take_add_one,hb]
   exact l6Q _ _
  refine ⟨_,rfl,_,_,rfl,rfl,.inr ⟨by decide,by decide⟩,_,rfl,b,rfl,?_⟩
  cases b with
  | true=>exact iteT ⟨_,_,rfl,rfl,⟨_,by rw [hs]; rfl⟩,rfl⟩
  | false=>exact kY ⟨_,_,rfl,rfl,⟨_,by rw [hs]; rfl⟩,rfl⟩
 ·rintro σ H' ⟨⟨c,rfl⟩,e⟩
  rw [e,List.length_map,List.take_length]
  exact ⟨_,rfl,q⟩
theorem u5Z:yQ ["saying","every"] ["saying","every"] (gQ bY):=(by wtm_at "f")
theorem t2Z (h:Has K mg "so_bits" bY ["saying","every"]) (cI:Cal P w K mg base 2 "is_so" ["saying","values"] spIsSo) (cB:Cal P w K mg base 1 "bits_of" ["truths"] spBitsOf):Cal P w K mg base 3 "so_bits" ["saying","every"] spSoBits:=by
 refine h.cal u5Z (fun vs H Q E h=>?_) (fun f cdv A outer s H vs Q E hr h=>?_)
 ·obtain ⟨ps,pe,s,us,vl,many,rfl,_⟩:=h
  rfl
 obtain ⟨ps,pe,s,us,vl,many,rfl,hs,X,l4,sin,ok,q⟩:=h
 have hr2:sZ 2 _:=hr
 have hr1:sZ 1 _:=hr.mono (by decide)
 refine ⟨_,(fQ (oQ (wQ cB hr1 rfl (aQ (nY (gQ bY) ["saying","every"] (N:=["values","saying"]) (ix:=[none,some 0]) rfl (by wtm_at "g") (xZ (pv 1)) (fun _ _ _ _=>uQ (i:=0) (show (["values","saying"]:List Str).Nodup by decide +kernel) rfl (Or.inl rfl)) (fun _ _ _ _=>bW) (fun _ _ _ _=>(wQ cI hr2 rfl (aQ (pv 1) (aQ (pv 0) eQ))))) eQ)))),?_⟩
 refine ⟨_,rfl,pe,rfl,⟨_,SqL.of X.at_⟩,fun D hD=>?_⟩
 refine qV (K:=K) (a:=pe) (xs:=us) (fun i ys σ H'=>∃ c0:Option V,σ=[c0,some (.ref ps)]/\ys=((vl.take i).map fun v=>s.so v).map V.bl/\H' D=some (.lst ys)/\iQ H H')
  ⟨none,rfl,rfl,dQ,iQ.new hD _⟩ (fun i ys σ H' _ ⟨_,_,_,_,e⟩=>SqL.of (e _ _ X.at_)) ?_ ?_
 ·rintro i x ys σ H' hi ⟨c0,rfl,rfl,hD',e'⟩
  obtain ⟨v,hv,p,rfl,hp⟩:=X.each.at hi
  have vok:=ok v (List.mem_of_getElem? hv)
  have hil:=(List.getElem?_eq_some_iff.mp hv).1
  refine d3Q ⟨_,rfl,_,rfl,ps,p,s,v,rfl,e' _ _ hs,e' _ _ hp,by rw [vok.1]; exact sin,vok.2,?_⟩
  refine ⟨hD',eZ (by rw [List.length_map,List.length_map,List.length_take]; omega),_,rfl,?_,dQ,fun c u z=>?_⟩
  ·rw [List.take_add_one,hv,List.map_append,List.map_append]
   rfl
  ·rw [kQ (jQ z hD)]
   exact e' _ _ z
 ·rintro ys σ H' ⟨c0,rfl,rfl,hD',e'⟩
  rw [X.each.1,List.take_length] at hD'
  exact ⟨D,_,rfl,hD',q H' e'⟩
end
set_option exponentiation.threshold 2000
theorem nxs {t R:TS} {D:Ends} {σ:St} {H:Hp} {rt:VK} {bk ct:St->Hp->Prop} (h:tSeq t R D σ H):Ends.nx ⟨tSeq t R D,rt,bk,ct⟩ σ H:=h
inductive Sg where
 | add | sub | mul
def Sg.str:Sg->Str
 | .add=>"+"
 | .sub=>"-"
 | .mul=>"*"
inductive lY where
 | num (n:Int)
 | box (x:Str)
 | op (g:Sg) (l r:lY)
def lY.Ok (zs:List Str):lY->Prop
 | .num n=>0<=n/\n < 4096
 | .box x=>x∈zs
 | .op _ l r=>l.Ok zs/\r.Ok zs
def lY.leaves:lY->Nat
 | .num _=>1
 | .box _=>1
 | .op _ l r=>l.leaves + r.leaves
theorem lY.one (t:lY):1<=t.leaves:=by
 induction t with
 | num n=>exact Nat.le_refl _
 | box x=>exact Nat.le_refl _
 | op g l r i1 i2=>show 1<=l.leaves + r.leaves; omega
def Sg.on (g:Sg) (a b:Int):Int:=match g with
 | .add=>a + b
 | .sub=>a - b
 | .mul=>a * b
def lY.worth (ρ:Str->Int):lY->Int
 | .num n=>n
 | .box x=>ρ x
 | .op g l r=>g.on (l.worth ρ) (r.worth ρ)
def Sm (k:Nat) (x:Int):Prop:=x.natAbs < 2 ^ k
theorem Sm.mono {j k:Nat} {x:Int} (h:Sm j x) (hk:j<=k):Sm k x:=Nat.lt_of_lt_of_le h (Nat.pow_le_pow_right (by decide) hk)
theorem Sm.add {k:Nat} {a b:Int} (ha:Sm k a) (hb:Sm k b):Sm (k + 1) (a + b):=by
 unfold Sm at *
 have:=Int.natAbs_add_le a b
 rw [Nat.pow_succ]; omega
theorem Sm.sub {k:Nat} {a b:Int} (ha:Sm k a) (hb:Sm k b):Sm (k + 1) (a - b):=by
 unfold Sm at *
 have:=Int.natAbs_sub_le a b
 rw [Nat.pow_succ]; omega
theorem Sm.mul {k l:Nat} {a b:Int} (ha:Sm k a) (hb:Sm l b):Sm (k + l) (a * b):=by
 unfold Sm at *
 rw [Int.natAbs_mul]
 rw [Nat.pow_add]
 exact Nat.mul_lt_mul'' ha hb
theorem n3Q {zs:List Str} {ρ:Str->Int} (hρ:∀ x∈zs,Sm 12 (ρ x)):∀ t:lY,t.Ok zs->Sm (12 * t.leaves) (t.worth ρ)
 | .num n,h=>by
  have h':0<=n/\n < 4096:=h
  show n.natAbs < 2 ^ (12 * 1)
  have:(2:Nat) ^ (12 * 1)=4096:=by decide
  omega
 | .box x,h=>hρ x h
 | .op g l r,h=>by
  have h1:=n3Q hρ l h.1
  have h2:=n3Q hρ r h.2
  have o1:=l.one
  have o2:=r.one
  show Sm (12 * (l.leaves + r.leaves)) (g.on (l.worth ρ) (r.worth ρ))
  cases g
  ·exact ((h1.mono (show 12 * l.leaves<=12 * (l.leaves + r.leaves) - 1 by omega)).add (h2.mono (show 12 * r.leaves<=12 * (l.leaves + r.leaves) - 1 by omega))).mono (by omega)
  ·exact ((h1.mono (show 12 * l.leaves<=12 * (l.leaves + r.leaves) - 1 by omega)).sub (h2.mono (show 12 * r.leaves<=12 * (l.leaves + r.leaves) - 1 by omega))).mono (by omega)
  ·exact (h1.mul h2).mono (by omega)
theorem o3Q {zs:List Str} {ρ:Str->Int} (hρ:∀ x∈zs,Sm 12 (ρ x)) {t:lY} (ok:t.Ok zs) (h:t.leaves<=16):(t.worth ρ).natAbs < 2 ^ 1000:=(n3Q hρ t ok).mono (by omega)
def rho (zs:List Str) (ns:List Int) (x:Str):Int:=((zs.zip ns).find? fun p=>p.1 == x).elim 0 (·.2)
def dU (zs:List Str) (ns:List Int):List (Key × V):=(zs.zip ns).map fun p=>(Sum.inr p.1,V.int p.2)
theorem y7Q {z:Str} {n:Int} {zs:List Str} {ns:List Int}:rho (z :: zs) (n :: ns) z=n:=by simp [rho]
theorem z7Q {z x:Str} {n:Int} {zs:List Str} {ns:List Int} (h:z≠x):rho (z :: zs) (n :: ns) x=rho zs ns x:=by
 have:(z == x)=false:=by simpa using h
 simp [rho,List.find?_cons,this]
theorem look:∀ {zs:List Str} {ns:List Int} {x:Str},zs.length=ns.length->x∈zs->vZ (dU zs ns) (Sum.inr x:Key)=some (.int (rho zs ns x))/\rho zs ns x∈ns
 | [],_,_,_,z=>by cases z
 | z :: zs,[],_,h,_=>by cases h
 | z :: zs,n :: ns,x,hl,hx=>by
  by_cases e:z=x
  ·subst e
   rw [y7Q]
   exact ⟨uX rfl,List.mem_cons_self⟩
  ·have hx':x∈zs:=by
    rcases List.mem_cons.mp hx with e' | h
    ·exact absurd e'.symm e
    ·exact h
   rw [z7Q e]
   obtain ⟨h1,h2⟩:=look (zs:=zs) (ns:=ns) (by simpa using hl) hx'
   exact ⟨(vX (fun h=>e (Sum.inr.inj h))).trans h1,List.mem_cons_of_mem _ h2⟩
theorem u9Q (zs:List Str) (ns:List Int) (h:zs.length=ns.length):(dU zs ns).map (·.1)=zs.map fun z=>(Sum.inr z:Key):=by
 unfold dU
 rw [List.map_map]
 have:((fun x:Key × V=>x.fst) ∘ fun p:Str × Int=>((Sum.inr p.1:Key),V.int p.2))=(fun z:Str=>(Sum.inr z:Key)) ∘ Prod.fst:=rfl
 rw [this,<-List.map_map,List.map_fst_zip (by omega)]
theorem a8Q {zs:List Str} {ns:List Int} (h:zs.length=ns.length) (hn:zs.Nodup):((dU zs ns).map (·.1)).Nodup:=by
 rw [u9Q zs ns h,List.nodup_iff_pairwise_ne,List.pairwise_map]
 rw [List.nodup_iff_pairwise_ne] at hn
 exact hn.imp fun h e=>h (Sum.inr.inj e)
inductive iJ (H:Hp):V->lY->Prop where
 | num {p:Addr} {n:Int}:H p=some (.tup [.str "number",.int n])->iJ H (.ref p) (.num n)
 | box {p:Addr} {x:Str}:H p=some (.tup [.str "box",.str x])->iJ H (.ref p) (.box x)
 | op {p:Addr} {g:Sg} {a b:V} {l r:lY}:H p=some (.tup [.str g.str,a,b])->iJ H a l->iJ H b r->iJ H (.ref p) (.op g l r)
theorem iJ.mono {H H':Hp} {v:V} {t:lY} (h:iJ H v t) (e:iQ H H'):iJ H' v t:=by
 induction h with
 | num h=>exact .num (e _ _ h)
 | box h=>exact .box (e _ _ h)
 | op h _ _ i1 i2=>exact .op (e _ _ h) i1 i2
def Tups (H H':Hp):Prop:=∀ p xs,H p=some (.tup xs)->H' p=some (.tup xs)
theorem Tups.of {H H':Hp} (h:iQ H H'):Tups H H':=fun p xs e=>h p _ e
theorem iJ.tups {H H':Hp} {v:V} {t:lY} (h:iJ H v t) (e:Tups H H'):iJ H' v t:=by
 induction h with
 | num h=>exact .num (e _ _ h)
 | box h=>exact .box (e _ _ h)
 | op h _ _ i1 i2=>exact .op (e _ _ h) i1 i2
structure d0X (H:Hp) (d:Addr) (zs:List Str) (ns:List Int):Prop where
 dc:H d=some (.dK (dU zs ns))
 len:zs.length=ns.length
 sm:∀ n∈ns,Sm 12 n
theorem u1X {zs:List Str} {ns:List Int} (len:zs.length=ns.length) (sm:∀ n∈ns,Sm 12 n):∀ x∈zs,Sm 12 (rho zs ns x):=fun x hx=>sm _ (look len hx).2
theorem y2X (g:Sg):¬ V.str g.str=V.str "number":=by cases g <;> decide +kernel
theorem z2X (g:Sg):¬ V.str g.str=V.str "box":=by cases g <;> decide +kernel
def p0Q (n:Nat):Sp:=fun vs H Q _=>∃ (v:V) (d:Addr) (t:lY) (zs:List Str) (ns:List Int),vs=[v,.ref d]/\iJ H v t/\t.Ok zs/\t.leaves<=n/\t.leaves<=16/\d0X H d zs ns/\Q (.int (t.worth (rho zs ns))) H
section
theorem n6Q:yQ ["e","values","left","right"] ["e","values"] (gQ rK):=(by wtm_at "f")
theorem v5Z {n:Nat} (h:Has K mg "worth" rK ["e","values"]) (c:Cal P w K mg base n "worth" ["e","values"] (p0Q n)):Cal P w K mg base (n + 1) "worth" ["e","values"] (p0Q (n + 1)):=by
 refine h.cal n6Q (fun vs H Q E h=>?_) (fun f cdv A outer s H vs Q E hr h=>?_)
 ·obtain ⟨v,d,t,zs,ns,rfl,_⟩:=h
  rfl
 obtain ⟨v,d,t,zs,ns,rfl,T,ok,dn,d16,D,q⟩:=h
 have hu:=uY hr
 refine ⟨_,bQ (cZ (rQ aZ (mQ pQ (pv 0) cQ (fun _ _=>rfl)) tQ (nQ _)) (fQ (oQ (mQ pQ (pv 0) cQ (fun _ _=>rfl)))) sQ)
  (bQ (cZ (rQ aZ (mQ pQ (pv 0) cQ (fun _ _=>rfl)) tQ (nQ _)) (fQ (oQ (aV hu (pv 1) (mQ pQ (pv 0) cQ (fun _ _=>rfl)) (fun _ _=>rfl)))) sQ)
  (bQ (qQ (i:=2) n6Q.nd rfl (Or.inl rfl) (wQ c hr rfl (aQ (mQ pQ (pv 0) cQ (fun _ _=>rfl)) (aQ (pv 1) eQ))))
  (bQ (qQ (i:=3) n6Q.nd rfl (Or.inl rfl) (wQ c hr rfl (aQ (mQ pQ (pv 0) cQ (fun _ _=>rfl)) (aQ (pv 1) eQ))))
  (bQ (cZ (rQ aZ (mQ pQ (pv 0) cQ (fun _ _=>rfl)) tQ (nQ _)) (fQ (oQ (lQ hZ (pv 2) (pv 3)))) sQ)
  (bQ (cZ (rQ aZ (mQ pQ (pv 0) cQ (fun _ _=>rfl)) tQ (nQ _)) (fQ (oQ (lQ eJ (pv 2) (pv 3)))) sQ)
  (fQ (oQ (lQ d8Z (pv 2) (pv 3))))))))),?_⟩
 cases T with
 | @num p m hp =>
  refine ⟨_,rfl,p,_,_,_,rfl,rfl,SqT.of hp,rfl,rfl,_,rfl,kO rfl ?_⟩
  exact ⟨_,rfl,p,_,_,_,rfl,rfl,SqT.of hp,rfl,q⟩
 | @box p x hp =>
  refine ⟨_,rfl,p,_,_,_,rfl,rfl,SqT.of hp,rfl,rfl,_,rfl,kW (by decide +kernel) ?_⟩
  refine ⟨_,rfl,p,_,_,_,rfl,rfl,SqT.of hp,rfl,rfl,_,rfl,kO rfl ?_⟩
  have hl:=(look D.len (x:=x) ok).1
  refine ⟨_,rfl,_,rfl,p,_,_,_,rfl,rfl,SqT.of hp,rfl,d,_,rfl,?_,q⟩
  exact hl ▸ aY.k (k:=Sum.inr x) D.dc
 | @op p g a b l r hp Tl Tr =>
  have e:(lY.op g l r).leaves=l.leaves + r.leaves:=rfl
  have o1:=l.one
  have o2:=r.one
  rw [e] at dn d16
  refine ⟨_,rfl,p,_,_,_,rfl,rfl,SqT.of hp,rfl,rfl,_,rfl,kW (y2X g) ?_⟩
  refine ⟨_,rfl,p,_,_,_,rfl,rfl,SqT.of hp,rfl,rfl,_,rfl,kW (z2X g) ?_⟩
  refine ⟨_,rfl,p,_,_,_,rfl,rfl,SqT.of hp,rfl,_,rfl,a,d,l,zs,ns,rfl,Tl,ok.1,by omega,by omega,D,?_⟩
  refine ⟨_,rfl,p,_,_,_,rfl,rfl,SqT.of hp,rfl,_,rfl,b,d,r,zs,ns,rfl,Tr,ok.2,by omega,by omega,D,?_⟩
  have sm:=u1X D.len D.sm
  cases g with
  | add =>
   refine ⟨_,rfl,p,_,_,_,rfl,rfl,SqT.of hp,rfl,rfl,_,rfl,kO rfl ?_⟩
   exact ⟨_,rfl,_,rfl,_,_,rfl,rfl,q⟩
  | sub =>
   refine ⟨_,rfl,p,_,_,_,rfl,rfl,SqT.of hp,rfl,rfl,_,rfl,kW (by decide +kernel) ?_⟩
   refine ⟨_,rfl,p,_,_,_,rfl,rfl,SqT.of hp,rfl,rfl,_,rfl,kO rfl ?_⟩
   exact ⟨_,rfl,_,rfl,_,_,rfl,rfl,q⟩
  | mul =>
   refine ⟨_,rfl,p,_,_,_,rfl,rfl,SqT.of hp,rfl,rfl,_,rfl,kW (by decide +kernel) ?_⟩
   refine ⟨_,rfl,p,_,_,_,rfl,rfl,SqT.of hp,rfl,rfl,_,rfl,kW (by decide +kernel) ?_⟩
   exact ⟨_,rfl,_,rfl,_,_,rfl,rfl,⟨o3Q sm ok.1 (by omega),o3Q sm ok.2 (by omega)⟩,q⟩
theorem m5Q (h:Has K mg "worth" rK ["e","values"]):∀ n:Nat,Cal P w K mg base n "worth" ["e","values"] (p0Q n)
 | 0=>h.none fun vs H Q E h=>by
  obtain ⟨v,d,t,zs,ns,_,_,_,h1,_⟩:=h
  have:=t.one
  omega
 | n + 1=>v5Z h (m5Q h n)
def oZ (bs:List Box):List Str:=bs.map Box.nm
def spNamed:Sp:=fun vs H Q _=>∃ (pp pb pw pv':Addr) (us:List V) (bs:List Box) (ns:List Int),vs=[.ref pp,.ref pv']/\H pp=some (.tup [.ref pb,.ref pw])/\gJ H pb us bs/\H pv'=some (.tup (ns.map V.int))/\ns.length=bs.length/\bs.length<=100/\(oZ bs).Nodup /\
 ∀ d H',iQ H H'->H' d=some (.dK (dU (oZ bs) ns))->Q (.ref d) H'
theorem u2Z {bs:List Box} {ns:List Int} {i:Nat} {kv:Key × V} (h:(dU (oZ bs) ns)[i]?=some kv):∃ b n,bs[i]?=some b/\ns[i]?=some n/\kv=(Sum.inr b.nm,V.int n):=by
 unfold dU oZ at h
 rw [List.getElem?_map] at h
 cases e:((bs.map Box.nm).zip ns)[i]? with
 | none=>rw [e] at h; cases h
 | some p =>
  rw [e] at h
  rw [List.getElem?_zip_eq_some] at e
  obtain ⟨e1,e2⟩:=e
  rw [List.getElem?_map] at e1
  cases e3:bs[i]? with
  | none=>rw [e3] at e1; cases e1
  | some b =>
   rw [e3] at e1
   cases h
   have e4:b.nm=p.1:=Option.some.inj e1
   refine ⟨b,p.2,rfl,e2,?_⟩
   show ((Sum.inr p.1:Key),V.int p.2)=_
   rw [<-e4]
theorem q8Z:yQ ["program","values"] ["program","values"] (gQ yX):=(by wtm_at "f")
theorem w5Z (h:Has K mg "named_values" yX ["program","values"]) (B:Blt mg):Cal P w K mg base 1 "named_values" ["program","values"] spNamed:=by
 refine h.cal q8Z (fun vs H Q E h=>?_) (fun f cdv A outer s H vs Q E hr h=>?_)
 ·obtain ⟨pp,pb,pw,pv',us,bs,ns,rfl,_⟩:=h
  rfl
 obtain ⟨pp,pb,pw,pv',us,bs,ns,rfl,hP,X,hv,hl,h100,hn,q⟩:=h
 refine ⟨_,(fQ (oQ (tV (y1Q rfl) rfl B.dict v0Z (aQ (nY (gQ yX) ["program","values"] (N:=["box","value"]) (ix:=[none,none]) rfl (by wtm_at "g")
  (e1X rfl B.zip (aQ (mQ pQ (pv 0) cQ (fun _ _=>rfl)) (aQ (pv 1) eQ))) (fun _ _ _ _=>pgt K 2 rfl (jZ (uQ (i:=0) (show (["box","value"]:List Str).Nodup by decide +kernel) rfl (Or.inl rfl)) (jZ (uQ (i:=1) (show (["box","value"]:List Str).Nodup by decide +kernel) rfl (Or.inl rfl)) dJ))) (fun _ _ _ _=>bW)
  (fun _ _ _ _=>(iZ (aQ (mQ (ixt K) (pv 0) cQ (fun _ _=>rfl)) (aQ (pv 1) eQ))))) eQ)))),?_⟩
 refine ⟨_,rfl,pp,_,_,_,rfl,rfl,SqT.of hP,rfl,_,rfl,pb,pv',rfl,⟨_,SqL.of X.at_⟩,⟨_,SqT.of hv⟩,fun D hD=>?_⟩
 have lus:us.length=bs.length:=X.each.1
 refine f1X (K:=K) (a:=pb) (b:=pv') (xs:=us) (ys:=ns.map V.int) (by rw [List.length_map]; omega) (fun i ys σ H2=>∃ (ps:List Addr) (c0 c1:Option V),σ=[c0,c1]/\ys=ps.map V.ref/\ps.length=i /\
   (∀ (j:Nat) p kv,ps[j]?=some p->(dU (oZ bs) ns)[j]?=some kv->H2 p=some (.tup [kV kv.1,kv.2]))/\H2 D=some (.lst ys)/\iQ H H2)
  ⟨[],none,none,rfl,rfl,rfl,fun j p kv e=>by simp at e,dQ,iQ.new hD _⟩ (fun i ys σ H2 _ ⟨_,_,_,_,_,_,_,_,z⟩=>⟨SqL.of (z _ _ X.at_),SqT.of (z _ _ hv)⟩) ?_ ?_
 ·rintro i x y ys σ H2 T hx hy ⟨ps,c0,c1,rfl,rfl,lp,hps,hD2,s2⟩ hT
  have hil:i < bs.length:=by
   have:=(List.getElem?_eq_some_iff.mp hx).1
   omega
  obtain ⟨u,b,hu1,hb1,pbx,rfl,hpbx⟩:=X.each.get hil
  rw [hx] at hu1
  obtain rfl:x=V.ref pbx:=Option.some.inj hu1
  obtain ⟨n,hn1,rfl⟩:∃ n,ns[i]?=some n/\y=V.int n:=by
   rw [List.getElem?_map] at hy
   cases e:ns[i]? with
   | none=>rw [e] at hy; cases hy
   | some n=>rw [e] at hy; exact ⟨n,rfl,(Option.some.inj hy).symm⟩
  have s3:=iQ.new hT (.tup [.ref pbx,.int n])
  have hbx:=s3 _ _ (s2 _ _ hpbx)
  refine ⟨T,_,rfl,SqT.of dQ,rfl,_,_,rfl,_,_,rfl,rfl,?_⟩
  simp only [tTrue,↓reduceIte]
  refine ⟨_,rfl,pbx,_,_,_,rfl,rfl,SqT.of hbx,rfl,_,rfl,(by show 2<=sizeLine; decide),fun p hp=>?_⟩
  have s4:=iQ.new hp (.tup [.str b.nm,.int n])
  have hD4:=s4 _ _ (s3 _ _ hD2)
  have hDn:H D=none:=hD
  refine ⟨hD4,eZ (by rw [List.length_map]; omega),ps++[p],_,_,rfl,by rw [List.map_append]; rfl,by rw [List.length_append,lp]; rfl,fun j p' kv e1 e2=>?_,dQ,fun c o e=>?_⟩
  ·by_cases hj:j < ps.length
   ·rw [List.getElem?_append_left hj] at e1
    have:=s4 _ _ (s3 _ _ (hps j p' kv e1 e2))
    rw [kQ (zO this hD4 (by intro z; cases z))]
    exact this
   ·rw [List.getElem?_append_right (by omega)] at e1
    have hj':j=ps.length:=by
     cases ej:j - ps.length with
     | zero=>omega
     | succ m=>rw [ej] at e1; simp at e1
    subst hj'
    rw [Nat.sub_self] at e1
    cases e1
    obtain ⟨b',n',h1,h2,rfl⟩:=u2Z e2
    rw [lp] at h1 h2
    rw [hb1] at h1
    rw [hn1] at h2
    cases h1
    cases h2
    rw [kQ (jQ (s3 _ _ hD2) hp).symm]
    exact dQ
  ·rw [kQ (jQ e hDn)]
   exact s4 _ _ (s3 _ _ (s2 _ _ e))
 ·rintro ys σ H2 ⟨ps,c0,c1,rfl,rfl,lp,hps,hD2,s2⟩
  have lpair:(dU (oZ bs) ns).length=bs.length:=by
   unfold dU oZ
   rw [List.length_map,List.length_zip,List.length_map]
   omega
  refine ⟨D,ps,dU (oZ bs) ns,rfl,hD2,by rw [lpair]; omega,fun i p kv e1 e2=>hps i p kv e1 e2,a8Q (by unfold oZ; rw [List.length_map]; omega) hn,fun p hp=>?_⟩
  exact q p _ (s2.trans (iQ.new hp _)) dQ
end
theorem v9Q (xs:List V) {i:Nat} (h:i<=xs.length):pV xs none (some (i:Int))=xs.take i:=by
 unfold pV
 rw [HT.sIx_nat,HT.sIx_none,Nat.min_eq_left h,List.drop_zero,Nat.sub_zero]
theorem x5Z (xs:List V) (i:Nat):pV xs (some (i:Int)) none=xs.drop i:=by
 unfold pV
 rw [HT.sIx_nat,HT.sIx_none]
 by_cases h:i<=xs.length
 ·rw [Nat.min_eq_left h]
  exact List.take_of_length_le (by rw [List.length_drop]; exact Nat.le_refl _)
 ·rw [Nat.min_eq_right (by omega),List.drop_length,List.drop_eq_nil_of_le (by omega)]
  simp
def put (xs:List V) (i:Nat) (v:V):List V:=xs.take i++[v]++xs.drop (i + 1)
theorem y5Z {K:W.Frag} {σ:St} {H:Hp} {Q:VK} {tv ti tn tj:TE} {pv:Addr} {xs:List V} {i:Nat} {n:V} (hv:H pv=some (.tup xs)) (hi:i < xs.length) (h4:xs.length<=100)
  (hV:∀ {H':Hp} {R:VK},R (.ref pv) H'->tv σ H' R) (hI:∀ {H':Hp} {R:VK},iQ H H'->R (.int (i:Int)) H'->ti σ H' R) (hN:∀ {H':Hp} {R:VK},R n H'->tn σ H' R) (hJ:∀ {H':Hp} {R:VK},iQ H H'->R (.int ((i:Int) + 1)) H'->tj σ H' R)
  (q:∀ p H',iQ H H'->H' p=some (.tup (put xs i n))->Q (.ref p) H') :
  tOp rCatE (tOp rCatE (tSl (rSlT K) tv tNoPart (o7Q ti)) (tTup (o1Q tn tNil))) (tSl (rSlT K) tv (o7Q tj) tNoPart) σ H Q:=by
 refine hV (hI (iQ.refl H) ⟨_,rfl,pv,xs,rfl,SqT.of hv,?_,fun p1 h1=>?_⟩)
 ·rw [HT.sIx_nat]
  omega
 have s1:=iQ.new h1 (.tup (pV xs none (some (i:Int))))
 refine hN ⟨(by show 1<=sizeLine; decide),fun p2 h2=>?_⟩
 have s2:=iQ.new h2 (.tup [n])
 refine ⟨p1,p2,_,_,rfl,rfl,s2 _ _ dQ,dQ,small ?_,fun p3 H3 s3 e3=>?_⟩
 ·rw [v9Q xs (Nat.le_of_lt hi),List.length_take]
  show min i xs.length + 1<=1000
  omega
 have s123:=s1.trans (s2.trans s3)
 refine hV (hJ s123 ⟨_,rfl,pv,xs,rfl,SqT.of (s123 _ _ hv),?_,fun p4 h4'=>?_⟩)
 ·have e:((i:Int) + 1)=((i + 1:Nat):Int):=by omega
  rw [e,HT.sIx_nat]
  omega
 have s4:=iQ.new h4' (.tup (pV xs (some ((i:Int) + 1)) none))
 have e5:pV xs (some ((i:Int) + 1)) none=xs.drop (i + 1):=by
  have e:((i:Int) + 1)=((i + 1:Nat):Int):=by omega
  rw [e,x5Z]
 refine ⟨p3,p4,_,_,rfl,rfl,s4 _ _ e3,dQ,small ?_,fun p5 H5 s5 e5'=>?_⟩
 ·rw [e5,v9Q xs (Nat.le_of_lt hi),List.length_append,List.length_take,List.length_drop]
  show min i xs.length + 1 + (xs.length - (i + 1))<=1000
  omega
 ·refine q p5 H5 (s123.trans (s4.trans s5)) ?_
  rw [e5',e5,v9Q xs (Nat.le_of_lt hi)]
  rfl
def spFilled:Sp:=fun vs H Q _=>∃ (pp ps pb pw pv:Addr) (us:List V) (bs:List Box) (k n:Int) (i:Nat) (b:Box) (xs:List V),vs=[.ref pp,.ref ps,.int (i:Int),.int n]/\H pp=some (.tup [.ref pb,.ref pw])/\gJ H pb us bs/\bs[i]?=some b /\
 H ps=some (.tup [.int k,.ref pv])/\H pv=some (.tup xs)/\i < xs.length/\xs.length<=100 /\
 (b.lo<=n/\n<=b.hi->∀ q1 q2 H',iQ H H'->H' q1=some (.tup [.int (k + 1),.ref q2])->H' q2=some (.tup (put xs i (.int n)))->Q (.ref q1) H')/\(¬ (b.lo<=n/\n<=b.hi)->Q .non H)
theorem r8Z {ns:List Int} {i:Nat} (h:i < ns.length) (n:Int):put (ns.map V.int) i (.int n)=(ns.set i n).map V.int:=by
 unfold put
 rw [List.set_eq_take_append_cons_drop,if_pos h,List.map_append,List.map_cons,List.map_take,List.map_drop]
 simp
inductive Row where
 | mark (z:Str)
 | ask (i:Nat)
 | stop
 | go (t:Nat)
 | put (i:Nat) (t:lY)
 | iff (lt:Bool) (a b:lY) (t:Nat)
def sgn (lt:Bool):Str:=if lt then "<" else "="
def Row.Ok (bs:List Box):Row->Prop
 | .ask i=>i < bs.length
 | .put i t=>i < bs.length/\t.Ok (oZ bs)/\t.leaves<=16
 | .iff _ a b _=>(a.Ok (oZ bs)/\a.leaves<=16)/\b.Ok (oZ bs)/\b.leaves<=16
 | _=>True
def lW (H:Hp) (v:V) (row:Row):Prop:=∃ p,v = .ref p/\match row with
 | .mark z=>H p=some (.tup [.str "mark",.str z])
 | .ask i=>H p=some (.tup [.str "ask",.int (i:Int)])
 | .stop=>H p=some (.tup [.str "stop"])
 | .go t=>H p=some (.tup [.str "go",.int (t:Int)])
 | .put i t=>∃ e,H p=some (.tup [.str "put",.int (i:Int),e])/\iJ H e t
 | .iff lt a b t=>∃ e1 e2,H p=some (.tup [.str "if",.str (sgn lt),e1,e2,.int (t:Int)])/\iJ H e1 a/\iJ H e2 b
theorem lW.tups {H H':Hp} {v:V} {row:Row} (h:lW H v row) (k:Tups H H'):lW H' v row:=by
 obtain ⟨p,e,h⟩:=h
 refine ⟨p,e,?_⟩
 cases row with
 | mark z=>exact k _ _ h
 | ask i=>exact k _ _ h
 | stop=>exact k _ _ h
 | go t=>exact k _ _ h
 | put i t=>obtain ⟨a,h1,h2⟩:=h; exact ⟨a,k _ _ h1,h2.tups k⟩
 | iff lt a b t=>obtain ⟨x,y,h1,h2,h3⟩:=h; exact ⟨x,y,k _ _ h1,h2.tups k,h3.tups k⟩
theorem lW.same {H H':Hp} {v:V} {row:Row} (h:lW H v row) (hb:iQ H H'):lW H' v row:=h.tups (Tups.of hb)
def cmpI (lt:Bool) (x y:Int):Bool:=if lt then decide (x < y) else decide (x=y)
def fill (bs:List Box) (ns:List Int) (k i:Nat) (n:Int):Option (Nat × List Int):=match bs[i]? with
 | some b=>if b.lo<=n/\n<=b.hi then some (k + 1,ns.set i n) else none
 | none=>none
def Row.next (bs:List Box) (k:Nat) (ns:List Int) (num:Int):Row->Option (Nat × List Int)
 | .mark _=>some (k + 1,ns)
 | .ask i=>fill bs ns k i num
 | .stop=>some (k + 1,ns)
 | .go t=>some (t,ns)
 | .put i t=>fill bs ns k i (t.worth (rho (oZ bs) ns))
 | .iff lt a b t=>if cmpI lt (a.worth (rho (oZ bs) ns)) (b.worth (rho (oZ bs) ns)) then some (t,ns) else some (k + 1,ns)
theorem Within.sm12 {bs:List Box} {ns:List Int} (h:Within bs ns) (ok:∀ b∈bs,b.Ok):∀ n∈ns,Sm 12 n:=fun n hn=>by
 have:=h.sm ok n hn
 show n.natAbs < 2 ^ 12
 have:(2:Nat) ^ 12=4096:=by decide
 omega
theorem Within.set {bs:List Box} {ns:List Int} {i:Nat} {n:Int} {b:Box} (h:Within bs ns) (hb:bs[i]?=some b) (h1:b.lo<=n) (h2:n<=b.hi):Within bs (ns.set i n):=by
 refine ⟨by rw [List.length_set]; exact h.1,fun j b' n' e1 e2=>?_⟩
 by_cases hj:i=j
 ·subst hj
  have hi:i < ns.length:=by rw [<-h.1]; exact (List.getElem?_eq_some_iff.mp hb).1
  rw [List.getElem?_set_self hi] at e2
  rw [hb] at e1
  cases e1
  cases e2
  exact ⟨h1,h2⟩
 ·rw [List.getElem?_set_ne hj] at e2
  exact h.2 j b' n' e1 e2
theorem s1Q {bs:List Box} {ns ns':List Int} {k i k':Nat} {n:Int} (h:Within bs ns) (e:fill bs ns k i n=some (k',ns')):Within bs ns':=by
 unfold fill at e
 cases eb:bs[i]? with
 | none=>rw [eb] at e; cases e
 | some b =>
  rw [eb] at e
  by_cases c:b.lo<=n/\n<=b.hi
  ·have e':(if b.lo<=n/\n<=b.hi then some (k + 1,ns.set i n) else none)=some (k',ns'):=e
   rw [if_pos c] at e'
   cases e'
   exact h.set eb c.1 c.2
  ·have e':(if b.lo<=n/\n<=b.hi then some (k + 1,ns.set i n) else none)=some (k',ns'):=e
   rw [if_neg c] at e'
   cases e'
theorem Row.next_within {bs:List Box} {ns ns':List Int} {k k':Nat} {num:Int} {row:Row} (h:Within bs ns) (e:row.next bs k ns num=some (k',ns')):Within bs ns':=by
 cases row with
 | mark z=>cases e; exact h
 | ask i=>exact s1Q h e
 | stop=>cases e; exact h
 | go t=>cases e; exact h
 | put i t=>exact s1Q h e
 | iff lt a b t =>
  have e':(if cmpI lt (a.worth (rho (oZ bs) ns)) (b.worth (rho (oZ bs) ns))=true then some (t,ns) else some (k + 1,ns))=some (k',ns'):=e
  split at e' <;> cases e' <;> exact h
structure bX (H:Hp) (pp pb pw:Addr) (us ws:List V) (bs:List Box) (rows:List Row):Prop where
 prog:H pp=some (.tup [.ref pb,.ref pw])
 boxes:gJ H pb us bs
 ok:∀ b∈bs,b.Ok
 ro:H pw=some (.lst ws)
 each:tX (lW H) ws rows
theorem bX.same {H H':Hp} {pp pb pw:Addr} {us ws:List V} {bs:List Box} {rows:List Row} (h:bX H pp pb pw us ws bs rows) (s:iQ H H'):bX H' pp pb pw us ws bs rows:=
 ⟨s _ _ h.prog,h.boxes.same s,h.ok,s _ _ h.ro,h.each.mono fun _ _ z=>z.same s⟩
def t1Q (H:Hp) (Q:VK):Option (Nat × List Int)->Prop
 | some (k,ns)=>∀ q1 q2 H',iQ H H'->H' q1=some (.tup [.int (k:Int),.ref q2])->H' q2=some (.tup (ns.map V.int))->Q (.ref q1) H'
 | none=>∀ H',iQ H H'->Q .non H'
theorem t1Q.same {H H':Hp} {Q:VK} {o:Option (Nat × List Int)} (h:t1Q H Q o) (s:iQ H H'):t1Q H' Q o:=by
 cases o with
 | none=>exact fun H2 s2=>h H2 (s.trans s2)
 | some p=>exact fun q1 q2 H2 s2=>h q1 q2 H2 (s.trans s2)
def spHolds:Sp:=fun vs H Q _=>∃ (pp pb pw p pv':Addr) (us:List V) (bs:List Box) (ns:List Int) (lt:Bool) (e1 e2:V) (a b:lY) (t:Nat),vs=[.ref pp,.ref p,.ref pv']/\H pp=some (.tup [.ref pb,.ref pw])/\gJ H pb us bs/\(∀ b∈bs,b.Ok)/\H pv'=some (.tup (ns.map V.int))/\Within bs ns/\bs.length<=100/\(oZ bs).Nodup /\
 H p=some (.tup [.str "if",.str (sgn lt),e1,e2,.int (t:Int)])/\iJ H e1 a/\iJ H e2 b/\(a.Ok (oZ bs)/\a.leaves<=16)/\(b.Ok (oZ bs)/\b.leaves<=16)/\∀ H',iQ H H'->Q (.bl (cmpI lt (a.worth (rho (oZ bs) ns)) (b.worth (rho (oZ bs) ns)))) H'
def spStep:Sp:=fun vs H Q _=>∃ (pp ps pb pw pv':Addr) (us ws:List V) (bs:List Box) (rows:List Row) (num:V) (m:Int) (k:Nat) (row:Row) (ns:List Int),vs=[.ref pp,.ref ps,num]/\bX H pp pb pw us ws bs rows/\rows[k]?=some row/\row.Ok bs /\
 H ps=some (.tup [.int (k:Int),.ref pv'])/\H pv'=some (.tup (ns.map V.int))/\Within bs ns/\bs.length<=100/\(oZ bs).Nodup/\(∀ i,row = .ask i->num = .int m)/\row ≠ .stop/\t1Q H Q (row.next bs k ns m)
theorem b8Q {bs:List Box} {ns:List Int} (h:Within bs ns):(oZ bs).length=ns.length:=by unfold oZ; rw [List.length_map,h.1]
section
theorem p3Q:yQ ["program","standing","place","number","box","values"] ["program","standing","place","number"] (gQ yY):=(by wtm_at "f")
theorem v2Z (h:Has K mg "filled" yY ["program","standing","place","number"]):Cal P w K mg base 1 "filled" ["program","standing","place","number"] spFilled:=by
 refine h.cal p3Q (fun vs H Q E h=>?_) (fun f cdv A outer s H vs Q E hr h=>?_)
 ·obtain ⟨pp,ps,pb,pw,pv,us,bs,k,n,i,b,xs,rfl,_⟩:=h
  rfl
 obtain ⟨pp,ps,pb,pw,pv',us,bs,k,n,i,b,xs,rfl,hP,X,hb,hs,hv,hi,h100,q1,q2⟩:=h
 refine ⟨_,(bQ (qQ (i:=4) p3Q.nd rfl (Or.inl rfl) (mQ zQ (mQ pQ (pv 0) cQ (fun _ _=>rfl)) (pv 2) (fun _ _=>rfl)))
  (bQ (cZ (nW (c4Z r4Q r4Q (mQ pQ (pv 4) cQ (fun _ _=>rfl)) (pv 3) (mQ pQ (pv 4) cQ (fun _ _=>rfl)))) (fQ (oQ w3Z)) sQ)
  (bQ (qQ (i:=5) p3Q.nd rfl (Or.inl rfl) (mQ pQ (pv 1) cQ (fun _ _=>rfl)))
  (fQ (oQ (iZ (aQ (lQ hZ (mQ pQ (pv 1) cQ (fun _ _=>rfl)) cQ) (aQ (lQ f2Q (lQ f2Q (iU g9Q (pv 5) d2Q (yU (pv 2))) (iZ (aQ (pv 3) eQ))) (iU g9Q (pv 5) (yU (lQ hZ (pv 2) cQ)) d2Q)) eQ)))))))),?_⟩
 obtain ⟨u,b',e1,e2,p,rfl,hp⟩:=X.each.get (i:=i) (List.getElem?_eq_some_iff.mp hb).1
 rw [hb] at e2
 obtain rfl:b=b':=Option.some.inj e2
 refine ⟨_,rfl,pp,_,_,_,rfl,rfl,SqT.of hP,rfl,_,rfl,pb,_,_,_,rfl,rfl,SqL.of X.at_,oX e1,?_⟩
 have good:∀ R':Ends,R'.rt=Q->b.lo<=n/\n<=b.hi->tSeq (tAsg (tOp (rIxT K) (tVar 1) (tC (.int 1))) (fX 5)) (tRet (tTup (o1Q (tOp (rI0 fun i j=>V.int (i + j)) (tOp (rIxT K) (tVar 1) (tC (.int 0))) (tC (.int 1)))
   (o1Q (tOp rCatE (tOp rCatE (tSl (rSlT K) (tVar 5) tNoPart (o7Q (tVar 2))) (tTup (o1Q (tVar 3) tNil))) (tSl (rSlT K) (tVar 5) (o7Q (tOp (rI0 fun i j=>V.int (i + j)) (tVar 2) (tC (.int 1)))) tNoPart)) tNil)))) R' [some (.ref pp),some (.ref ps),some (.int (i:Int)),some (.int n),some (.ref p),none] H:=by
  intro R' hR' hb'
  refine ⟨_,rfl,ps,_,_,_,rfl,rfl,SqT.of hs,rfl,?_⟩
  refine ⟨_,rfl,ps,_,_,_,rfl,rfl,SqT.of hs,rfl,_,_,rfl,rfl,?_⟩
  refine y5Z (pv:=pv') (xs:=xs) (i:=i) (n:=.int n) hv hi h100 (fun h=>⟨_,rfl,h⟩) (fun _ h=>⟨_,rfl,h⟩) (fun h=>⟨_,rfl,h⟩) (fun _ h=>⟨_,rfl,_,_,rfl,rfl,h⟩) fun p5 H5 s5 e5=>?_
  refine ⟨(by show 2<=sizeLine; decide),fun p6 h6=>?_⟩
  have s6:=iQ.new h6 (.tup [.int (k + 1),.ref p5])
  rw [hR']
  exact q1 hb' p6 p5 _ (s5.trans s6) dQ (s6 _ _ e5)
 refine ⟨_,rfl,p,_,_,_,rfl,rfl,SqT.of hp,rfl,_,rfl,_,_,rfl,rfl,_,rfl,?_⟩
 refine sX (fun c1=>?_) (fun c1=>?_)
 ·refine ⟨_,rfl,p,_,_,_,rfl,rfl,SqT.of hp,rfl,_,_,rfl,rfl,_,rfl,?_⟩
  by_cases c2:n<=b.hi
  ·rw [decide_eq_true c2]
   exact good _ rfl ⟨c1,c2⟩
  ·rw [decide_eq_false c2]
   exact q2 fun z=>c2 z.2
 ·exact ⟨_,rfl,q2 fun z=>c1 z.1⟩
theorem k2Q:yQ ["program","statement","values","named","left","right"] ["program","statement","values"] (gQ aO):=(by wtm_at "f")
theorem z5Z (h:Has K mg "holds" aO ["program","statement","values"]) (cN:Cal P w K mg base 1 "named_values" ["program","values"] spNamed) (cW:Cal P w K mg base 16 "worth" ["e","values"] (p0Q 16)):Cal P w K mg base 17 "holds" ["program","statement","values"] spHolds:=by
 refine h.cal k2Q (fun vs H Q E h=>?_) (fun f cdv A outer s H vs Q E hr h=>?_)
 ·obtain ⟨pp,pb,pw,p,pv',us,bs,ns,lt,e1,e2,a,b,t,rfl,_⟩:=h
  rfl
 obtain ⟨pp,pb,pw,p,pv',us,bs,ns,lt,e1,e2,a,b,t,rfl,hP,X,ok,hv,hw,h100,hn,hp,T1,T2,⟨o1,l1⟩,⟨o2,l2⟩,q⟩:=h
 have hr1:sZ 1 _:=hr.mono (by decide)
 refine ⟨_,(bQ (qQ (i:=3) k2Q.nd rfl (Or.inl rfl) (wQ cN hr1 rfl (aQ (pv 0) (aQ (pv 2) eQ))))
  (bQ (qQ (i:=4) k2Q.nd rfl (Or.inl rfl) (wQ cW hr rfl (aQ (mQ pQ (pv 1) cQ (fun _ _=>rfl)) (aQ (pv 3) eQ))))
  (bQ (qQ (i:=5) k2Q.nd rfl (Or.inl rfl) (wQ cW hr rfl (aQ (mQ pQ (pv 1) cQ (fun _ _=>rfl)) (aQ (pv 3) eQ))))
  (bQ (cZ (rQ aZ (mQ pQ (pv 1) cQ (fun _ _=>rfl)) tQ (nQ _)) (fQ (oQ (lZ q4Q (pv 4) (pv 5) (nQ _)))) sQ)
  (fQ (oQ (lZ aZ (pv 4) (pv 5) (nQ _)))))))),?_⟩
 refine ⟨_,rfl,_,rfl,pp,pb,pw,pv',us,bs,ns,rfl,hP,X,hv,hw.1.symm,h100,hn,fun d H1 s1 hd=>?_⟩
 have V1:d0X H1 d (oZ bs) ns:=⟨hd,b8Q hw,hw.sm12 ok⟩
 have hp1:=s1 _ _ hp
 refine ⟨_,rfl,p,_,_,_,rfl,rfl,SqT.of hp1,rfl,_,rfl,e1,d,a,_,ns,rfl,T1.mono s1,o1,l1,l1,V1,?_⟩
 refine ⟨_,rfl,p,_,_,_,rfl,rfl,SqT.of hp1,rfl,_,rfl,e2,d,b,_,ns,rfl,T2.mono s1,o2,l2,l2,V1,?_⟩
 cases lt with
 | true =>
  refine ⟨_,rfl,p,_,_,_,rfl,rfl,SqT.of hp1,rfl,rfl,_,rfl,kO rfl ?_⟩
  exact ⟨_,rfl,_,rfl,_,_,rfl,rfl,q H1 s1⟩
 | false =>
  refine ⟨_,rfl,p,_,_,_,rfl,rfl,SqT.of hp1,rfl,rfl,_,rfl,kW (by decide +kernel) ?_⟩
  refine ⟨_,rfl,_,rfl,rfl,?_⟩
  have e:decide (V.int (a.worth (rho (oZ bs) ns))=V.int (b.worth (rho (oZ bs) ns)))=cmpI false (a.worth (rho (oZ bs) ns)) (b.worth (rho (oZ bs) ns)):=by
   show _=decide _
   exact decide_eq_decide.mpr ⟨fun z=>by injection z,fun z=>by rw [z]⟩
  show Q (.bl (decide _)) H1
  rw [e]
  exact q H1 s1
theorem n5Q {bs:List Box} {ns:List Int} {k i:Nat} {n:Int} {b:Box} (hb:bs[i]?=some b) (h:b.lo<=n/\n<=b.hi):fill bs ns k i n=some (k + 1,ns.set i n):=by
 unfold fill
 rw [hb]
 exact if_pos h
theorem w2Z {bs:List Box} {ns:List Int} {k i:Nat} {n:Int} {b:Box} (hb:bs[i]?=some b) (h:¬ (b.lo<=n/\n<=b.hi)):fill bs ns k i n=none:=by
 unfold fill
 rw [hb]
 exact if_neg h
theorem q3Q:yQ ["program","standing","number","values","statement","kind","reckoned"] ["program","standing","number"] (gQ f1Q):=(by wtm_at "f")
theorem s8Z (h:Has K mg "step" f1Q ["program","standing","number"]) (c:Cal P w K mg base 1 "filled" ["program","standing","place","number"] spFilled) (cN:Cal P w K mg base 1 "named_values" ["program","values"] spNamed) (cW:Cal P w K mg base 16 "worth" ["e","values"] (p0Q 16))
  (cH:Cal P w K mg base 17 "holds" ["program","statement","values"] spHolds):Cal P w K mg base 18 "step" ["program","standing","number"] spStep:=by
 refine h.cal q3Q (fun vs H Q E h=>?_) (fun f cdv A outer s H vs Q E hr h=>?_)
 ·obtain ⟨pp,ps,pb,pw,pv',us,ws,bs,rows,num,m,k,row,ns,rfl,_⟩:=h
  rfl
 obtain ⟨pp,ps,pb,pw,pv',us,ws,bs,rows,num,m,k,row,ns,rfl,PA,hk,okr,hs,hv,hw,h100,hn,hnum,nst,q⟩:=h
 have hr1:sZ 1 _:=hr.mono (by decide)
 have hr16:sZ 16 _:=hr.mono (by decide)
 refine ⟨_,(bQ (qQ (i:=3) q3Q.nd rfl (Or.inl rfl) (mQ pQ (pv 1) cQ (fun _ _=>rfl)))
  (bQ (qQ (i:=4) q3Q.nd rfl (Or.inl rfl) (mQ zQ (mQ pQ (pv 0) cQ (fun _ _=>rfl)) (mQ pQ (pv 1) cQ (fun _ _=>rfl)) (fun _ _=>rfl)))
  (bQ (qQ (i:=5) q3Q.nd rfl (Or.inl rfl) (mQ pQ (pv 4) cQ (fun _ _=>rfl)))
  (bQ (cZ (rQ aZ (pv 5) tQ (nQ _)) (fQ (oQ (wQ c hr1 rfl (aQ (pv 0) (aQ (pv 1) (aQ (mQ pQ (pv 4) cQ (fun _ _=>rfl)) (aQ (pv 2) eQ))))))) sQ)
  (bQ (cZ (rQ aZ (pv 5) tQ (nQ _)) (bQ (qQ (i:=6) q3Q.nd rfl (Or.inl rfl) (wQ cW hr16 rfl (aQ (mQ pQ (pv 4) cQ (fun _ _=>rfl)) (aQ (wQ cN hr1 rfl (aQ (pv 0) (aQ (pv 3) eQ))) eQ))))
   (fQ (oQ (wQ c hr1 rfl (aQ (pv 0) (aQ (pv 1) (aQ (mQ pQ (pv 4) cQ (fun _ _=>rfl)) (aQ (pv 6) eQ)))))))) sQ)
  (bQ (cZ (rQ aZ (pv 5) tQ (nQ _)) (fQ (oQ (iZ (aQ (mQ pQ (pv 4) cQ (fun _ _=>rfl)) (aQ (pv 3) eQ))))) sQ)
  (bQ (cZ (PW.pt (x5Q (rQ aZ (pv 5) tQ (nQ _)) (a2Q (lJ (wQ cH hr rfl (aQ (pv 0) (aQ (pv 4) (aQ (pv 3) eQ)))))))) (fQ (oQ (iZ (aQ (mQ pQ (pv 4) cQ (fun _ _=>rfl)) (aQ (pv 3) eQ))))) sQ)
  (fQ (oQ (iZ (aQ (lQ hZ (mQ pQ (pv 1) cQ (fun _ _=>rfl)) cQ) (aQ (pv 3) eQ)))))))))))),?_⟩
 obtain ⟨wv,row',hw1,hw2,p,rfl,hp⟩:=PA.each.get (i:=k) (List.getElem?_eq_some_iff.mp hk).1
 rw [hk] at hw2
 obtain rfl:row=row':=Option.some.inj hw2
 have hP:=PA.prog
 have X:=PA.boxes
 refine ⟨_,rfl,ps,_,_,_,rfl,rfl,SqT.of hs,rfl,?_⟩
 refine ⟨_,rfl,pp,_,_,_,rfl,rfl,SqT.of hP,rfl,_,rfl,ps,_,_,_,rfl,rfl,SqT.of hs,rfl,pw,_,_,_,rfl,rfl,SqL.of PA.ro,oX hw1,?_⟩
 have ek:((k:Int) + 1)=(((k + 1:Nat):Nat):Int):=by omega
 have full:∀ (H1:Hp) (i:Nat) (n:Int),i < bs.length->iQ H H1->t1Q H1 Q (fill bs ns k i n)->spFilled [.ref pp,.ref ps,.int (i:Int),.int n] H1 Q E0:=fun H1 i n hi s1 aft=>by
  obtain ⟨b,hb⟩:∃ b,bs[i]?=some b:=⟨bs[i],List.getElem?_eq_getElem hi⟩
  refine ⟨pp,ps,pb,pw,pv',us,bs,(k:Int),n,i,b,ns.map V.int,rfl,s1 _ _ hP,X.same s1,hb,s1 _ _ hs,s1 _ _ hv,by rw [List.length_map,<-hw.1]; exact hi,by rw [List.length_map,<-hw.1]; exact h100,fun hin q1 q2 H2 s2 e1 e2=>?_,fun hout=>?_⟩
  ·rw [n5Q hb hin] at aft
   rw [r8Z (by rw [<-hw.1]; exact hi)] at e2
   exact aft q1 q2 H2 s2 (by rw [<-ek]; exact e1) e2
  ·rw [w2Z hb hout] at aft
   exact aft H1 (iQ.refl H1)
 cases row with
 | mark z =>
  refine ⟨_,rfl,p,_,_,_,rfl,rfl,SqT.of hp,rfl,?_⟩
  refine ⟨_,rfl,rfl,_,rfl,kW (by decide +kernel) ?_⟩
  refine ⟨_,rfl,rfl,_,rfl,kW (by decide +kernel) ?_⟩
  refine ⟨_,rfl,rfl,_,rfl,kW (by decide +kernel) ?_⟩
  refine ⟨_,rfl,rfl,_,rfl,kW (by decide +kernel) ?_⟩
  refine ⟨_,rfl,ps,_,_,_,rfl,rfl,SqT.of hs,rfl,_,_,rfl,rfl,_,rfl,(by show 2<=sizeLine; decide),fun p6 h6=>?_⟩
  have s6:=iQ.new h6 (.tup [.int ((k:Int) + 1),.ref pv'])
  exact q p6 pv' _ s6 (by rw [<-ek]; exact dQ) (s6 _ _ hv)
 | go t =>
  refine ⟨_,rfl,p,_,_,_,rfl,rfl,SqT.of hp,rfl,?_⟩
  refine ⟨_,rfl,rfl,_,rfl,kW (by decide +kernel) ?_⟩
  refine ⟨_,rfl,rfl,_,rfl,kW (by decide +kernel) ?_⟩
  refine ⟨_,rfl,rfl,_,rfl,kO rfl ?_⟩
  refine ⟨_,rfl,p,_,_,_,rfl,rfl,SqT.of hp,rfl,_,rfl,(by show 2<=sizeLine; decide),fun p6 h6=>?_⟩
  have s6:=iQ.new h6 (.tup [.int (t:Int),.ref pv'])
  exact q p6 pv' _ s6 dQ (s6 _ _ hv)
 | stop=>exact absurd rfl nst
 | ask i =>
  obtain rfl:=hnum i rfl
  refine ⟨_,rfl,p,_,_,_,rfl,rfl,SqT.of hp,rfl,?_⟩
  refine ⟨_,rfl,rfl,_,rfl,kO rfl ?_⟩
  exact ⟨_,rfl,_,rfl,_,rfl,p,_,_,_,rfl,rfl,SqT.of hp,rfl,_,rfl,full H i m okr (iQ.refl H) q⟩
 | put i t =>
  obtain ⟨ev,hp1,T⟩:=hp
  obtain ⟨hi,ot,lt16⟩:=okr
  refine ⟨_,rfl,p,_,_,_,rfl,rfl,SqT.of hp1,rfl,?_⟩
  refine ⟨_,rfl,rfl,_,rfl,kW (by decide +kernel) ?_⟩
  refine ⟨_,rfl,rfl,_,rfl,kO rfl ?_⟩
  refine ⟨_,rfl,p,_,_,_,rfl,rfl,SqT.of hp1,rfl,_,rfl,_,rfl,pp,pb,pw,pv',us,bs,ns,rfl,hP,X,hv,hw.1.symm,h100,hn,fun d H1 s1 hd=>?_⟩
  refine ⟨ev,d,t,_,ns,rfl,T.mono s1,ot,lt16,lt16,⟨hd,b8Q hw,hw.sm12 PA.ok⟩,?_⟩
  exact ⟨_,rfl,_,rfl,_,rfl,p,_,_,_,rfl,rfl,SqT.of (s1 _ _ hp1),rfl,_,rfl,full H1 i _ hi s1 (t1Q.same q s1)⟩
 | iff lt a b t =>
  obtain ⟨e1,e2,hp1,T1,T2⟩:=hp
  refine ⟨_,rfl,p,_,_,_,rfl,rfl,SqT.of hp1,rfl,?_⟩
  refine ⟨_,rfl,rfl,_,rfl,kW (by decide +kernel) ?_⟩
  refine ⟨_,rfl,rfl,_,rfl,kW (by decide +kernel) ?_⟩
  refine ⟨_,rfl,rfl,_,rfl,kW (by decide +kernel) ?_⟩
  refine ⟨_,rfl,rfl,_,rfl,kO rfl ?_⟩
  refine ⟨_,rfl,_,rfl,_,rfl,pp,pb,pw,p,pv',us,bs,ns,lt,e1,e2,a,b,t,rfl,hP,X,PA.ok,hv,hw,h100,hn,hp1,T1,T2,okr.1,okr.2,fun H1 s1=>?_⟩
  have q':t1Q H Q (if cmpI lt (a.worth (rho (oZ bs) ns)) (b.worth (rho (oZ bs) ns))=true then some (t,ns) else some (k + 1,ns)):=q
  cases ec:cmpI lt (a.worth (rho (oZ bs) ns)) (b.worth (rho (oZ bs) ns)) with
  | true =>
   rw [ec,if_pos rfl] at q'
   refine ⟨_,rfl,iteT ?_⟩
   refine ⟨_,rfl,p,_,_,_,rfl,rfl,SqT.of (s1 _ _ hp1),rfl,_,rfl,(by show 2<=sizeLine; decide),fun p6 h6=>?_⟩
   have s6:=iQ.new h6 (.tup [.int (t:Int),.ref pv'])
   exact q' p6 pv' _ (s1.trans s6) dQ (s6 _ _ (s1 _ _ hv))
  | false =>
   rw [ec,if_neg Bool.false_ne_true] at q'
   refine ⟨_,rfl,kY ?_⟩
   refine ⟨_,rfl,ps,_,_,_,rfl,rfl,SqT.of (s1 _ _ hs),rfl,_,_,rfl,rfl,_,rfl,(by show 2<=sizeLine; decide),fun p6 h6=>?_⟩
   have s6:=iQ.new h6 (.tup [.int ((k:Int) + 1),.ref pv'])
   exact q' p6 pv' _ (s1.trans s6) (by rw [<-ek]; exact dQ) (s6 _ _ (s1 _ _ hv))
end
def Row.kind:Row->Str
 | .mark _=>"mark"
 | .ask _=>"ask"
 | .stop=>"stop"
 | .go _=>"go"
 | .put _ _=>"put"
 | .iff _ _ _ _=>"if"
def cJ (rs:List Row) (k:Nat):Str:=match rs[k]? with
 | some r=>r.kind
 | none=>"stop"
theorem lW.head {H:Hp} {v:V} {row:Row} (h:lW H v row):∃ p xs,v = .ref p/\H p=some (.tup (.str row.kind :: xs)):=by
 obtain ⟨p,e,h⟩:=h
 cases row with
 | mark z=>exact ⟨p,_,e,h⟩
 | ask i=>exact ⟨p,_,e,h⟩
 | stop=>exact ⟨p,_,e,h⟩
 | go t=>exact ⟨p,_,e,h⟩
 | put i t=>obtain ⟨a,h,_⟩:=h; exact ⟨p,_,e,h⟩
 | iff lt a b t=>obtain ⟨a,b,h,_⟩:=h; exact ⟨p,_,e,h⟩
def fK (H:Hp) (p:Addr) (k:Nat) (pz:Addr) (ns:List Int):Prop:=H p=some (.tup [.int (k:Nat),.ref pz])/\H pz=some (.tup (ns.map V.int))
theorem fK.same {H H':Hp} {p pz:Addr} {k:Nat} {ns:List Int} (h:fK H p k pz ns) (s:iQ H H'):fK H' p k pz ns:=⟨s _ _ h.1,s _ _ h.2⟩
def beh (bs:List Box) (rs:List Row) (k:Nat) (ns:List Int):List (Nat × List Int):=match rs[k]? with
 | none=>[]
 | some .stop=>[]
 | some (.ask i)=>match bs[i]? with
  | some b=>(rng b).map fun n=>(k + 1,ns.set i n)
  | none=>[]
 | some row=>(row.next bs k ns 0).toList
def Row.Aims (rs:List Row):Row->Prop
 | .go t=>∃ z,rs[t]?=some (.mark z)
 | .iff _ _ _ t=>∃ z,rs[t]?=some (.mark z)
 | _=>True
theorem t8Z {bs:List Box} {ns ns':List Int} {k i k':Nat} {n:Int} (e:fill bs ns k i n=some (k',ns')):k'=k + 1:=by
 unfold fill at e
 cases eb:bs[i]? with
 | none=>rw [eb] at e; cases e
 | some b =>
  rw [eb] at e
  have e':(if b.lo<=n/\n<=b.hi then some (k + 1,ns.set i n) else none)=some (k',ns'):=e
  split at e'
  ·cases e'; rfl
  ·cases e'
theorem a6Z {b:Box} {n:Int} (h:n∈rng b):b.lo<=n/\n<=b.hi:=by
 unfold rng at h
 obtain ⟨k,hk,rfl⟩:=List.mem_map.mp h
 have:=List.mem_range.mp hk
 unfold Box.size at this
 omega
theorem r3Q {bs:List Box} {rs:List Row} {k k':Nat} {ns ns':List Int} (hw:Within bs ns) (aims:∀ r∈rs,r.Aims rs) (h:(k',ns')∈beh bs rs k ns):Within bs ns'/\k < rs.length/\(k'=k + 1\/∃ z,rs[k']?=some (.mark z)):=by
 unfold beh at h
 cases er:rs[k]? with
 | none=>rw [er] at h; cases h
 | some row =>
  rw [er] at h
  have hk:=(List.getElem?_eq_some_iff.mp er).1
  have ha:=aims row (List.mem_of_getElem? er)
  have nx:(k',ns')∈(row.next bs k ns 0).toList->Within bs ns':=fun h=>by
   cases e:row.next bs k ns 0 with
   | none=>rw [e] at h; cases h
   | some s =>
    rw [e] at h
    rw [<-List.mem_singleton.mp h] at e
    exact Row.next_within hw e
  have nk:(k',ns')∈(row.next bs k ns 0).toList->row.next bs k ns 0=some (k',ns'):=fun h=>by
   cases e:row.next bs k ns 0 with
   | none=>rw [e] at h; cases h
   | some s=>rw [e] at h; rw [<-List.mem_singleton.mp h]
  cases row with
  | mark z=>have e:=nk h; cases e; exact ⟨hw,hk,.inl rfl⟩
  | stop=>cases h
  | go t=>have e:=nk h; cases e; exact ⟨hw,hk,.inr ha⟩
  | put i t=>exact ⟨nx h,hk,.inl (t8Z (nk h))⟩
  | iff lt a b t =>
   have e:=nk h
   have e':(if cmpI lt (a.worth (rho (oZ bs) ns)) (b.worth (rho (oZ bs) ns))=true then some (t,ns) else some (k + 1,ns))=some (k',ns'):=e
   split at e' <;> cases e'
   ·exact ⟨hw,hk,.inr ha⟩
   ·exact ⟨hw,hk,.inl rfl⟩
  | ask i =>
   cases eb:bs[i]? with
   | none=>simp only [eb] at h; cases h
   | some b =>
    simp only [eb] at h
    obtain ⟨n,hn,e⟩:=List.mem_map.mp h
    cases e
    have:=a6Z hn
    exact ⟨hw.set eb this.1 this.2,hk,.inl rfl⟩
def spIsOver:Sp:=fun vs H Q _=>∃ (pp pb pr p pz:Addr) (us ur:List V) (bs:List Box) (rs:List Row) (k:Nat) (ns:List Int),vs=[.ref pp,.ref p]/\bX H pp pb pr us ur bs rs/\fK H p k pz ns/\k<=rs.length/\Q (.bl (decide (cJ rs k = "stop"))) H
def spKindAt:Sp:=fun vs H Q _=>∃ (pp pb pr p pz:Addr) (us ur:List V) (bs:List Box) (rs:List Row) (k:Nat) (ns:List Int),vs=[.ref pp,.ref p]/\bX H pp pb pr us ur bs rs/\fK H p k pz ns/\k<=rs.length/\Q (.str (cJ rs k)) H
def spMarkAt:Sp:=fun vs H Q _=>∃ (pp pb pr p pz:Addr) (us ur:List V) (bs:List Box) (rs:List Row) (k:Nat) (ns:List Int) (z:Str),vs=[.ref pp,.ref p]/\bX H pp pb pr us ur bs rs/\fK H p k pz ns/\rs[k]?=some (.mark z)/\∀ q,H q=none->Q (.ref q) (upd H q (.tup [.str z,.ref pz]))
def spAskedFor:Sp:=fun vs H Q _=>∃ (pp pb pr p pz:Addr) (us ur:List V) (bs:List Box) (rs:List Row) (k i:Nat) (ns:List Int) (b:Box),vs=[.ref pp,.ref p]/\bX H pp pb pr us ur bs rs/\fK H p k pz ns/\rs[k]?=some (.ask i)/\bs[i]?=some b/\∀ l,H l=none->Q (.ref l) (upd H l (.lst ((rng b).map V.int)))
def aW (H:Hp) (us:List V) (ss:List (Nat × List Int)):Prop:=tX (fun u (s:Nat × List Int)=>∃ q pz,u = .ref q/\fK H q s.1 pz s.2) us ss
theorem aW.same {H H':Hp} {us:List V} {ss:List (Nat × List Int)} (h:aW H us ss) (s:iQ H H'):aW H' us ss:=h.mono fun _ _ ⟨q,pz,e,h⟩=>⟨q,pz,e,h.same s⟩
structure xW (bs:List Box) (rs:List Row):Prop where
 l4:bs.length<=4
 vol:vol bs<=400
 nms:(oZ bs).Nodup
 l60:rs.length<=60
 row:∀ r∈rs,r.Ok bs
 aims:∀ r∈rs,r.Aims rs
def spBehind:Sp:=fun vs H Q _=>∃ (pp pb pr p pz:Addr) (us ur:List V) (bs:List Box) (rs:List Row) (k:Nat) (ns:List Int),vs=[.ref pp,.ref p]/\bX H pp pb pr us ur bs rs/\xW bs rs/\fK H p k pz ns/\k<=rs.length/\Within bs ns /\
 ∀ (l:Addr) (ul:List V) (H':Hp),H l=none->iQ H H'->H' l=some (.lst ul)->aW H' ul (beh bs rs k ns)->Q (.ref l) H'
def spStartOf:Sp:=fun vs H Q _=>∃ (pp pb pr:Addr) (us ur:List V) (bs:List Box) (rs:List Row),vs=[.ref pp]/\bX H pp pb pr us ur bs rs/\bs.length<=4/\∀ (q pz:Addr) (H':Hp),H q=none->iQ H H'->fK H' q 0 pz (bs.map Box.fst)->Q (.ref q) H'
section
theorem c8Q:yQ ["program","standing","rows"] ["program","standing"] (gQ zY):=(by wtm_at "f")
theorem dec_str {a b:Str}:decide (V.str a=V.str b)=decide (a=b):=decide_eq_decide.mpr ⟨fun z=>V.str.inj z,fun z=>by rw [z]⟩
theorem x2Z (h:Has K mg "is_over" zY ["program","standing"]) (B:Blt mg):Cal P w K mg base 1 "is_over" ["program","standing"] spIsOver:=by
 refine h.cal c8Q (fun vs H Q E h=>?_) (fun f cdv A outer s H vs Q E hr h=>?_)
 ·obtain ⟨_,_,_,_,_,_,_,_,_,_,_,rfl,_⟩:=h
  rfl
 obtain ⟨pp,pb,pr,p,pz,us,ur,bs,rs,k,ns,rfl,G,S,hrow,q⟩:=h
 refine ⟨_,(bQ (qQ (i:=2) c8Q.nd rfl (Or.inl rfl) (mQ pQ (pv 0) cQ (fun _ _=>rfl)))
  (fQ (oQ (z3Z (lZ aZ (mQ pQ (pv 1) cQ (fun _ _=>rfl)) (bZ dZ rfl B.len pX (aQ (pv 2) eQ)) (nQ _)) (y5Q (lZ aZ (mQ pQ (mQ zQ (pv 2) (mQ pQ (pv 1) cQ (fun _ _=>rfl)) (fun _ _=>rfl)) cQ (fun _ _=>rfl)) tQ (nQ _))))))),?_⟩
 have hl:=G.each.1
 refine ⟨_,rfl,pp,_,((1:Nat):Int),_,rfl,rfl,SqT.of G.prog,rfl,?_⟩
 refine ⟨_,rfl,p,_,((0:Nat):Int),_,rfl,rfl,SqT.of S.1,rfl,_,rfl,pr,_,rfl,.inl (SqL.of G.ro),rfl,?_⟩
 rw [hl]
 by_cases e:k=rs.length
 ·refine ⟨_,rfl,rV (decide_eq_true (by rw [e])) ?_⟩
  have:rs[k]?=none:=List.getElem?_eq_none (by omega)
  have hk:cJ rs k = "stop":=by unfold cJ; rw [this]
  rw [decide_eq_true hk] at q
  exact q
 ·refine ⟨_,rfl,nJ (decide_eq_false (fun z=>e (by have:=V.int.inj z; omega))) ?_⟩
  obtain ⟨v,r,hv,hr',hR⟩:=G.each.get (i:=k) (by omega)
  obtain ⟨p2,xs,rfl,hp2⟩:=hR.head
  refine ⟨_,rfl,_,rfl,p,_,((0:Nat):Int),_,rfl,rfl,SqT.of S.1,rfl,pr,_,_,_,rfl,rfl,SqL.of G.ro,oX hv,?_⟩
  have hk:cJ rs k=r.kind:=by unfold cJ; rw [hr']
  rw [hk] at q
  exact ⟨p2,_,((0:Nat):Int),_,rfl,rfl,SqT.of hp2,at0,rfl,zJ q dec_str⟩
theorem b6Z:yQ ["program","standing"] ["program","standing"] (gQ aK):=(by wtm_at "f")
theorem y2Z (h:Has K mg "kind_at" aK ["program","standing"]) (cO:Cal P w K mg base 1 "is_over" ["program","standing"] spIsOver):Cal P w K mg base 2 "kind_at" ["program","standing"] spKindAt:=by
 refine h.cal b6Z (fun vs H Q E h=>?_) (fun f cdv A outer s H vs Q E hr h=>?_)
 ·obtain ⟨_,_,_,_,_,_,_,_,_,_,_,rfl,_⟩:=h
  rfl
 obtain ⟨pp,pb,pr,p,pz,us,ur,bs,rs,k,ns,rfl,G,S,hrow,q⟩:=h
 have hr1:sZ 1 _:=hr
 refine ⟨_,(bQ (cZ (lJ (wQ cO hr1 rfl (aQ (pv 0) (aQ (pv 1) eQ)))) (fQ (oQ tQ)) sQ)
  (fQ (oQ (mQ pQ (mQ zQ (mQ pQ (pv 0) cQ (fun _ _=>rfl)) (mQ pQ (pv 1) cQ (fun _ _=>rfl)) (fun _ _=>rfl)) cQ (fun _ _=>rfl))))),?_⟩
 have hl:=G.each.1
 refine ⟨_,rfl,_,rfl,pp,pb,pr,p,pz,us,ur,bs,rs,k,ns,rfl,G,S,hrow,_,rfl,?_⟩
 by_cases ek:cJ rs k = "stop"
 ·rw [ek] at q
  exact rV (decide_eq_true ek) q
 ·refine nJ (decide_eq_false ek) ?_
  have hlt:k < rs.length:=by
   rcases Nat.lt_or_ge k rs.length with h1 | h1
   ·exact h1
   ·exact absurd (by unfold cJ; rw [List.getElem?_eq_none h1]) ek
  obtain ⟨v,r,hv,hr',hR⟩:=G.each.get (i:=k) (by omega)
  obtain ⟨p2,xs,rfl,hp2⟩:=hR.head
  have hk:cJ rs k=r.kind:=by unfold cJ; rw [hr']
  rw [hk] at q
  exact ⟨_,rfl,pp,_,((1:Nat):Int),_,rfl,rfl,SqT.of G.prog,rfl,_,rfl,p,_,((0:Nat):Int),_,rfl,rfl,SqT.of S.1,rfl,pr,_,_,_,rfl,rfl,SqL.of G.ro,oX hv,p2,_,((0:Nat):Int),_,rfl,rfl,SqT.of hp2,at0,q⟩
theorem c6Z:yQ ["program","standing"] ["program","standing"] (gQ bK):=(by wtm_at "f")
theorem z2Z (h:Has K mg "mark_at" bK ["program","standing"]):Cal P w K mg base 1 "mark_at" ["program","standing"] spMarkAt:=by
 refine h.cal c6Z (fun vs H Q E h=>?_) (fun f cdv A outer s H vs Q E hr h=>?_)
 ·obtain ⟨_,_,_,_,_,_,_,_,_,_,_,_,rfl,_⟩:=h
  rfl
 obtain ⟨pp,pb,pr,p,pz,us,ur,bs,rs,k,ns,z,rfl,G,S,hz,q⟩:=h
 refine ⟨_,(fQ (oQ (iZ (aQ (mQ pQ (mQ zQ (mQ pQ (pv 0) cQ (fun _ _=>rfl)) (mQ pQ (pv 1) cQ (fun _ _=>rfl)) (fun _ _=>rfl)) cQ (fun _ _=>rfl)) (aQ (mQ pQ (pv 1) cQ (fun _ _=>rfl)) eQ))))),?_⟩
 have il:=(List.getElem?_eq_some_iff.mp hz).1
 have hl:=G.each.1
 obtain ⟨v,r,hv,hr',p2,rfl,hp2⟩:=G.each.get (i:=k) (by omega)
 rw [hz] at hr'
 cases hr'
 exact ⟨_,rfl,pp,_,((1:Nat):Int),_,rfl,rfl,SqT.of G.prog,rfl,_,rfl,p,_,((0:Nat):Int),_,rfl,rfl,SqT.of S.1,rfl,pr,_,_,_,rfl,rfl,SqL.of G.ro,oX hv,p2,_,((1:Nat):Int),_,rfl,rfl,SqT.of hp2,rfl,_,rfl,p,_,((1:Nat):Int),_,rfl,rfl,SqT.of S.1,rfl,(by show 2<=sizeLine; decide),q⟩
theorem s3Q:yQ ["program","standing","box"] ["program","standing"] (gQ rW):=(by wtm_at "f")
theorem u8Z (b:Box):rgl b.lo (b.hi + 1 - b.lo).toNat=(rng b).map V.int:=by
 unfold rgl rng Box.size
 rw [List.map_map,show b.hi + 1 - b.lo=b.hi - b.lo + 1 by omega]
 rfl
theorem d8Q (h:Has K mg "asked_for" rW ["program","standing"]) (B:Blt mg):Cal P w K mg base 1 "asked_for" ["program","standing"] spAskedFor:=by
 refine h.cal s3Q (fun vs H Q E h=>?_) (fun f cdv A outer s H vs Q E hr h=>?_)
 ·obtain ⟨_,_,_,_,_,_,_,_,_,_,_,_,_,rfl,_⟩:=h
  rfl
 obtain ⟨pp,pb,pr,p,pz,us,ur,bs,rs,k,i,ns,b,rfl,G,S,hz,hb,q⟩:=h
 refine ⟨_,(bQ (qQ (i:=2) s3Q.nd rfl (Or.inl rfl) (mQ zQ (mQ pQ (pv 0) cQ (fun _ _=>rfl)) (mQ pQ (mQ zQ (mQ pQ (pv 0) cQ (fun _ _=>rfl)) (mQ pQ (pv 1) cQ (fun _ _=>rfl)) (fun _ _=>rfl)) cQ (fun _ _=>rfl)) (fun _ _=>rfl)))
  (fQ (oQ (p9Q rfl rfl B.list rfl B.range (aQ (mQ pQ (pv 2) cQ (fun _ _=>rfl)) (aQ (lQ hZ (mQ pQ (pv 2) cQ (fun _ _=>rfl)) cQ) eQ)))))),?_⟩
 have il:=(List.getElem?_eq_some_iff.mp hz).1
 have hl:=G.each.1
 have ib:=(List.getElem?_eq_some_iff.mp hb).1
 have hlb:=G.boxes.each.1
 obtain ⟨v,r,hv,hr',p2,rfl,hp2⟩:=G.each.get (i:=k) (by omega)
 rw [hz] at hr'
 cases hr'
 obtain ⟨v3,b3,hv3,hb3,p3,rfl,hp3⟩:=G.boxes.each.get (i:=i) (by omega)
 rw [hb] at hb3
 cases hb3
 have okb:=G.ok b (List.mem_of_getElem? hb)
 have h1:=okb.lo
 have h2:=okb.hi
 have h3:=okb.fl
 have h4:=okb.fh
 refine ⟨_,rfl,pp,_,((0:Nat):Int),_,rfl,rfl,SqT.of G.prog,rfl,_,rfl,pp,_,((1:Nat):Int),_,rfl,rfl,SqT.of G.prog,rfl,_,rfl,p,_,((0:Nat):Int),_,rfl,rfl,SqT.of S.1,rfl,pr,_,_,_,rfl,rfl,SqL.of G.ro,oX hv,p2,_,((1:Nat):Int),_,rfl,rfl,SqT.of hp2,rfl,pb,_,_,_,rfl,rfl,SqL.of G.boxes.at_,oX hv3,?_⟩
 refine ⟨_,rfl,p3,_,((1:Nat):Int),_,rfl,rfl,SqT.of hp3,rfl,_,rfl,p3,_,((2:Nat):Int),_,rfl,rfl,SqT.of hp3,rfl,_,_,rfl,rfl,_,_,rfl,⟨by omega,by omega,by omega,by omega⟩,by omega,fun l hl'=>?_⟩
 rw [u8Z]
 exact q l hl'
theorem t3Q:yQ ["program","standing","kind","behind"] ["program","standing"] (gQ aX):=(by wtm_at "f")
theorem a3Z (h:Has K mg "standings_behind" aX ["program","standing"]) (cK:Cal P w K mg base 2 "kind_at" ["program","standing"] spKindAt) (cA:Cal P w K mg base 1 "asked_for" ["program","standing"] spAskedFor) (cS:Cal P w K mg base 18 "step" ["program","standing","number"] spStep):Cal P w K mg base 19 "standings_behind" ["program","standing"] spBehind:=by
 refine h.cal t3Q (fun vs H Q E h=>?_) (fun f cdv A outer s H vs Q E hr h=>?_)
 ·obtain ⟨_,_,_,_,_,_,_,_,_,_,_,rfl,_⟩:=h
  rfl
 obtain ⟨pp,pb,pr,p,pz,us,ur,bs,rs,k,ns,rfl,G,O,S,hrow,W,q⟩:=h
 have hr18:sZ 18 _:=hr
 have hr2:sZ 2 _:=hr.mono (by decide)
 have hr1:sZ 1 _:=hr.mono (by decide)
 refine ⟨_,(bQ (qQ (i:=2) t3Q.nd rfl (Or.inl rfl) (wQ cK hr2 rfl (aQ (pv 0) (aQ (pv 1) eQ))))
  (bQ (cZ (rQ aZ (pv 2) tQ (nQ _)) (fQ (oQ (jX eQ))) sQ)
  (bQ (cZ (rQ aZ (pv 2) tQ (nQ _)) (fQ (oQ (nY (gQ aX) ["program","standing","kind","behind"] (N:=["number","program","standing"]) (ix:=[none,some 0,some 1]) rfl (by wtm_at "g") (xZ (wQ cA hr1 rfl (aQ (pv 0) (aQ (pv 1) eQ)))) (fun _ _ _ _=>uQ (i:=0) (show (["number","program","standing"]:List Str).Nodup by decide +kernel) rfl (Or.inl rfl)) (fun _ _ _ _=>bW) (fun _ _ _ _=>(wQ cS hr18 rfl (aQ (pv 1) (aQ (pv 2) (aQ (pv 0) eQ)))))))) sQ)
  (bQ (qQ (i:=3) t3Q.nd rfl (Or.inl rfl) (wQ cS hr18 rfl (aQ (pv 0) (aQ (pv 1) (aQ w3Z eQ)))))
  (fQ (oQ (e7Q (y3Z (m0X (pv 3))) (jX eQ) (jX (aQ (pv 3) eQ))))))))),?_⟩
 refine ⟨_,rfl,_,rfl,pp,pb,pr,p,pz,us,ur,bs,rs,k,ns,rfl,G,S,hrow,?_⟩
 have none_:beh bs rs k ns=[]->∀ (l:Addr),H l=none->Q (.ref l) (upd H l (.lst [])):=fun e l hl=>q l [] _ hl (iQ.new hl _) dQ (by rw [e]; exact ⟨rfl,fun i x y h=>nomatch h⟩)
 have go:∀ (row:Row),rs[k]?=some row->(∀ i,row ≠ .ask i)->row ≠ .stop->beh bs rs k ns=(row.next bs k ns 0).toList->∀ Q':VK,(∀ (q':Addr) (pz':Addr) (s:Nat × List Int) (H':Hp),row.next bs k ns 0=some s->iQ H H'->fK H' q' s.1 pz' s.2->Q' (.ref q') H')->(row.next bs k ns 0=none->∀ H',iQ H H'->Q' .non H')->spStep [.ref pp,.ref p,.non] H Q' E0:=fun row hrow' na nst _ Q' q1 q2=>by
  refine ⟨pp,p,pb,pr,pz,us,ur,bs,rs,.non,0,k,row,ns,rfl,G,hrow',O.row row (List.mem_of_getElem? hrow'),S.1,S.2,W,by have:=O.l4; omega,O.nms,fun i e=>absurd e (na i),nst,?_⟩
  cases e:row.next bs k ns 0 with
  | none=>exact fun H' s'=>q2 e H' s'
  | some s=>exact fun a b H' s' h1 h2=>q1 a b s H' e s' ⟨h1,h2⟩
 have fin:∀ (row:Row),beh bs rs k ns=(row.next bs k ns 0).toList->∀ (x:V) (H1:Hp),iQ H H1->(row.next bs k ns 0=none/\x = .non\/∃ q' pz' s,row.next bs k ns 0=some s/\x = .ref q'/\fK H1 q' s.1 pz' s.2) ->
   (x = .non->∀ l,H1 l=none->Q (.ref l) (upd H1 l (.lst [])))/\(x ≠ .non->∀ l,H1 l=none->Q (.ref l) (upd H1 l (.lst [x]))):=fun row eb x H1 s1 h=>by
  constructor
  ·rintro rfl l hl
   rcases h with ⟨e,_⟩ | ⟨_,_,_,_,e,_⟩
   ·exact q l [] _ (iQ.free s1 hl) (s1.trans (iQ.new hl _)) dQ (by rw [eb,e]; exact ⟨rfl,fun i x y h=>nomatch h⟩)
   ·cases e
  ·intro hx l hl
   rcases h with ⟨_,e⟩ | ⟨q',pz',s,e,rfl,hS⟩
   ·exact absurd e hx
   ·refine q l _ _ (iQ.free s1 hl) (s1.trans (iQ.new hl _)) dQ ?_
    rw [eb,e]
    refine ⟨rfl,fun i x y h1 h2=>?_⟩
    match i,h1,h2 with
    | 0,rfl,rfl=>exact ⟨q',pz',rfl,hS.same (iQ.new hl _)⟩
 have tri:(cJ rs k = "stop"/\beh bs rs k ns=[])\/(∃ i,rs[k]?=some (.ask i))\/∃ row,rs[k]?=some row/\row.kind ≠ "stop"/\row.kind ≠ "ask"/\(∀ i,row ≠ .ask i)/\row ≠ .stop/\beh bs rs k ns=(row.next bs k ns 0).toList:=by
  cases er:rs[k]? with
  | none=>exact .inl ⟨by unfold cJ; rw [er],by unfold beh; rw [er]⟩
  | some row =>
   cases row with
   | stop=>exact .inl ⟨by unfold cJ; rw [er]; rfl,by unfold beh; rw [er]⟩
   | ask i=>exact .inr (.inl ⟨i,rfl⟩)
   | mark z=>exact .inr (.inr ⟨_,rfl,(show ("mark":Str) ≠ "stop" by decide +kernel),(show ("mark":Str) ≠ "ask" by decide +kernel),(fun _ e=>nomatch e),(fun e=>nomatch e),by unfold beh; rw [er]⟩)
   | go t=>exact .inr (.inr ⟨_,rfl,(show ("go":Str) ≠ "stop" by decide +kernel),(show ("go":Str) ≠ "ask" by decide +kernel),(fun _ e=>nomatch e),(fun e=>nomatch e),by unfold beh; rw [er]⟩)
   | put i t=>exact .inr (.inr ⟨_,rfl,(show ("put":Str) ≠ "stop" by decide +kernel),(show ("put":Str) ≠ "ask" by decide +kernel),(fun _ e=>nomatch e),(fun e=>nomatch e),by unfold beh; rw [er]⟩)
   | iff lt a b t=>exact .inr (.inr ⟨_,rfl,(show ("if":Str) ≠ "stop" by decide +kernel),(show ("if":Str) ≠ "ask" by decide +kernel),(fun _ e=>nomatch e),(fun e=>nomatch e),by unfold beh; rw [er]⟩)
 rcases tri with ⟨hk,eb⟩ | ⟨i,er⟩ | ⟨row,hrow',k1,k2,na,nst,eb⟩
 ·refine ⟨_,rfl,rfl,_,rfl,rV (by rw [hk]; exact decide_eq_true rfl) ?_⟩
  exact ⟨(by show 0<=sizeLine; decide),none_ eb⟩
 rotate_left
 ·have hk:cJ rs k=row.kind:=by unfold cJ; rw [hrow']
  refine ⟨_,rfl,rfl,_,rfl,nJ (by rw [dec_str,hk]; exact decide_eq_false k1) ?_⟩
  refine ⟨_,rfl,rfl,_,rfl,nJ (by rw [dec_str,hk]; exact decide_eq_false k2) ?_⟩
  refine ⟨_,rfl,_,rfl,go row hrow' na nst eb _ (fun q' pz' s H1 e s1 hS=>?_) (fun e H1 s1=>?_)⟩
  ·have:=(fin row eb (.ref q') H1 s1 (.inr ⟨q',pz',s,e,rfl,hS⟩)).2 (fun z=>nomatch z)
   refine ⟨_,rfl,_,rfl,nJ (decide_eq_false (fun z=>nomatch z)) ?_⟩
   exact ⟨_,rfl,(by show 1<=sizeLine; decide),this⟩
  ·have:=(fin row eb .non H1 s1 (.inl ⟨e,rfl⟩)).1 rfl
   refine ⟨_,rfl,_,rfl,rV (decide_eq_true rfl) ?_⟩
   exact ⟨(by show 0<=sizeLine; decide),this⟩
 ·have hk:cJ rs k = "ask":=by unfold cJ; rw [er]; rfl
  have okr:i < bs.length:=O.row _ (List.mem_of_getElem? er)
  obtain ⟨b,hb⟩:∃ b,bs[i]?=some b:=⟨bs[i],List.getElem?_eq_getElem okr⟩
  have eb:beh bs rs k ns=(rng b).map fun n=>(k + 1,ns.set i n):=by
   unfold beh
   rw [er]
   show (match bs[i]? with | some b=>(rng b).map fun n=>(k + 1,ns.set i n) | none=>[])=_
   rw [hb]
  refine ⟨_,rfl,rfl,_,rfl,nJ (by rw [hk]; exact decide_eq_false (fun z=>absurd (V.str.inj z) (by decide +kernel))) ?_⟩
  refine ⟨_,rfl,rfl,_,rfl,rV (by rw [hk]; exact decide_eq_true rfl) ?_⟩
  refine ⟨_,rfl,_,rfl,pp,pb,pr,p,pz,us,ur,bs,rs,k,i,ns,b,rfl,G,S,er,hb,fun l hl=>?_⟩
  have sl:=iQ.new hl (.lst ((rng b).map V.int))
  have l1:upd H l (.lst ((rng b).map V.int)) l=some (.lst ((rng b).map V.int)):=dQ
  generalize upd H l (.lst ((rng b).map V.int))=H1 at *
  refine ⟨l,rfl,⟨_,SqL.of l1⟩,fun D hD=>?_⟩
  have hw20:(rng b).length<=1000:=by
   rw [dO]
   have:=(G.ok b (List.mem_of_getElem? hb)).w
   unfold Box.size
   omega
  refine qV (K:=K) (a:=l) (xs:=(rng b).map V.int) (fun j ys σ H2=>(∃ c0:Option V,σ=[c0,some (.ref pp),some (.ref p)])/\ys.length=j/\aW H2 ys ((beh bs rs k ns).take j)/\H2 D=some (.lst ys)/\iQ H1 H2)
   ⟨⟨none,rfl⟩,rfl,⟨rfl,fun i x y h=>nomatch h⟩,dQ,iQ.new hD _⟩ (fun j ys σ H2 _ hh=>SqL.of (hh.2.2.2.2 _ _ l1)) ?_ ?_
  ·rintro j x ys σ H2 hj ⟨⟨c0,rfl⟩,yl,A2,h2,s2⟩
   rw [List.getElem?_map] at hj
   obtain ⟨n,hn,rfl⟩:=Option.map_eq_some_iff.mp hj
   have jl:=(List.getElem?_eq_some_iff.mp hn).1
   have hin:=a6Z (List.mem_of_getElem? hn)
   have s02:=sl.trans s2
   refine d3Q ⟨_,rfl,_,rfl,_,rfl,pp,p,pb,pr,pz,us,ur,bs,rs,.int n,n,k,.ask i,ns,rfl,G.same s02,er,okr,(S.same s02).1,(S.same s02).2,W,by have:=O.l4; omega,O.nms,fun _ _=>rfl,(fun e=>nomatch e),?_⟩
   show t1Q H2 _ (fill bs ns k i n)
   rw [n5Q hb hin]
   intro q1 q2 H3 s3 e1 e2
   have D3:=s3 _ _ h2
   refine ⟨D3,eZ (by omega),⟨_,rfl⟩,by rw [List.length_append,yl]; rfl,?_,dQ,fun c o e=>by rw [kQ (jQ e hD)]; exact s3 _ _ (s2 _ _ e)⟩
   have keepT:∀ {c:Addr} {xs:List V},H3 c=some (.tup xs)->upd H3 D (.lst (ys++[.ref q1])) c=some (.tup xs):=fun h=>by
    rw [kQ (fun z=>by rw [z,D3] at h; cases h)]
    exact h
   rw [List.take_add_one,eb,List.getElem?_map,hn,<-eb]
   refine pJ (A2.mono fun u s ⟨q,pz,e,h⟩=>⟨q,pz,e,keepT (s3 _ _ h.1),keepT (s3 _ _ h.2)⟩) ⟨rfl,fun m x y hx hy=>?_⟩
   match m,hx,hy with
   | 0,rfl,rfl=>exact ⟨q1,q2,rfl,keepT e1,keepT e2⟩
  ·rintro ys σ H2 ⟨_,yl,A2,h2,s2⟩
   rw [List.length_map,eb,List.take_of_length_le (by rw [List.length_map]; exact Nat.le_refl _),<-eb] at A2
   exact q D ys H2 (iQ.free sl hD) (sl.trans s2) h2 A2
theorem b3Z:yQ ["program"] ["program"] (gQ qW):=(by wtm_at "f")
theorem u3Q (h:Has K mg "start_of" qW ["program"]) (B:Blt mg):Cal P w K mg base 1 "start_of" ["program"] spStartOf:=by
 refine h.cal b3Z (fun vs H Q E h=>?_) (fun f cdv A outer s H vs Q E hr h=>?_)
 ·obtain ⟨_,_,_,_,_,_,_,rfl,_⟩:=h
  rfl
 obtain ⟨pp,pb,pr,us,ur,bs,rs,rfl,G,l4,q⟩:=h
 refine ⟨_,(fQ (oQ (iZ (aQ cQ (aQ (tV l4Q rfl B.tuple h3Q (aQ (nY (gQ qW) ["program"] (N:=["box"]) (ix:=[none]) rfl (by wtm_at "g") (xZ (mQ pQ (pv 0) cQ (fun _ _=>rfl))) (fun _ _ _ _=>uQ (i:=0) (show (["box"]:List Str).Nodup by decide +kernel) rfl (Or.inl rfl)) (fun _ _ _ _=>bW) (fun _ _ _ _=>(mQ (ixt K) (pv 0) cQ (fun _ _=>rfl)))) eQ)) eQ))))),?_⟩
 have hl:=G.boxes.each.1
 refine ⟨_,rfl,pp,_,((0:Nat):Int),_,rfl,rfl,SqT.of G.prog,rfl,pb,rfl,⟨_,SqL.of G.boxes.at_⟩,fun D hD=>?_⟩
 refine qV (K:=K) (a:=pb) (xs:=us) (fun i ys σ H2=>(∃ c0:Option V,σ=[c0])/\ys=((bs.map Box.fst).take i).map V.int/\H2 D=some (.lst ys)/\iQ H H2)
  ⟨⟨none,rfl⟩,rfl,dQ,iQ.new hD _⟩ (fun i ys σ H2 _ hh=>SqL.of (hh.2.2.2 _ _ G.boxes.at_)) ?_ ?_
 ·rintro i x ys σ H2 hi ⟨⟨c0,rfl⟩,rfl,h2,s2⟩
  obtain ⟨b,hb,p,rfl,hp⟩:=G.boxes.each.at hi
  refine ⟨_,rfl,p,_,((3:Nat):Int),_,rfl,rfl,SqT.of (s2 _ _ hp),rfl,h2,eZ (by rw [List.length_map,List.length_take,List.length_map]; omega),⟨_,rfl⟩,?_,dQ,fun a o e=>by rw [kQ (jQ e hD)]; exact s2 _ _ e⟩
  rw [List.take_add_one,List.getElem?_map,hb,List.map_append]
  rfl
 rintro ys σ H2 ⟨_,rfl,h2,s2⟩
 rw [hl,List.take_of_length_le (by rw [List.length_map]; exact Nat.le_refl _)] at h2
 refine ⟨D,_,rfl,.inl ⟨SqL.of h2,fun t ht=>?_⟩⟩
 have st:=iQ.new ht (.tup ((bs.map Box.fst).map V.int))
 refine ⟨(by show 2<=sizeLine; decide),fun p hp=>?_⟩
 exact q p t _ (iQ.free (s2.trans st) hp) (s2.trans (st.trans (iQ.new hp _))) ⟨dQ,(iQ.new hp _) _ _ dQ⟩
end
def tk (ns:List Int):List Key:=ns.map Sum.inl
theorem u1Q (ns:List Int):(tk ns).map kV=ns.map V.int:=by unfold tk; rw [List.map_map]; rfl
theorem v3Q {a b:List Int} (h:tk a=tk b):a=b:=List.map_inj_right (fun _ _ h=>Sum.inl.inj h) |>.mp h
def Row.nm:Row->Option Str
 | .mark z=>some z
 | _=>none
theorem Row.nm_some {r:Row} {z:Str} (h:r.nm=some z):r = .mark z:=by
 cases r with
 | mark y=>cases h; rfl
 | _=>cases h
theorem Row.nm_none {r:Row} (h:r.nm=none):¬ r.kind = "mark":=by
 cases r with
 | mark y=>cases h
 | ask i=>exact (by decide +kernel:¬ (("ask":Str) = "mark"))
 | stop=>exact (by decide +kernel:¬ (("stop":Str) = "mark"))
 | go t=>exact (by decide +kernel:¬ (("go":Str) = "mark"))
 | put i t=>exact (by decide +kernel:¬ (("put":Str) = "mark"))
 | iff lt a b t=>exact (by decide +kernel:¬ (("if":Str) = "mark"))
def mks (rs:List Row):List Str:=rs.filterMap Row.nm
def mpl:List Row->Nat->List (Key × V)
 | [],_=>[]
 | x :: r,i=>(match x.nm with | some z=>[(Sum.inr z,.int (i:Nat))] | none=>[])++mpl r (i + 1)
theorem w3Q (r:Row):∀ (rs:List Row) (i:Nat),mpl (rs++[r]) i=mpl rs i++mpl [r] (i + rs.length)
 | [],i=>rfl
 | x :: rs,i=>by
  show _++mpl (rs++[r]) (i + 1)=(_++mpl rs (i + 1))++_
  rw [w3Q r rs (i + 1),List.length_cons,show i + 1 + rs.length=i + (rs.length + 1) from by omega,List.append_assoc]
theorem nU:∀ (rs:List Row) (i:Nat),(mpl rs i).map (·.1)=(mks rs).map Sum.inr
 | [],i=>rfl
 | x :: rs,i=>by
  unfold mks
  rw [List.filterMap_cons]
  show (_++mpl rs (i + 1)).map (·.1)=_
  rw [List.map_append,nU rs (i + 1)]
  cases e:x.nm with
  | none=>rfl
  | some z=>rfl
theorem a1Z (rs:List Row) (j:Nat):(mpl rs j).length=(mks rs).length:=by
 have:=congrArg List.length (nU rs j)
 rwa [List.length_map,List.length_map] at this
theorem wK (rs:List Row):(mks rs).length<=rs.length:=List.length_filterMap_le _ _
theorem w9Q:∀ {rs:List Row} {j i:Nat} {kv:Key × V},(mpl rs j)[i]?=some kv->∃ (z:Str) (r:Nat),kv=(Sum.inr z,.int ((j + r:Nat):Int))/\rs[r]?=some (.mark z)
 | [],j,i,kv,h=>by cases h
 | x :: rs,j,i,kv,h=>by
  have tl:∀ i,(mpl rs (j + 1))[i]?=some kv->∃ (z:Str) (r:Nat),kv=(Sum.inr z,.int ((j + r:Nat):Int))/\(x :: rs)[r]?=some (.mark z):=fun i h=>by
   obtain ⟨z,r,e,hr⟩:=w9Q (rs:=rs) (j:=j + 1) (i:=i) h
   exact ⟨z,r + 1,by rw [e,show j + 1 + r=j + (r + 1) by omega],by rw [List.getElem?_cons_succ]; exact hr⟩
  have h':((match x.nm with | some z=>[((Sum.inr z:Key),V.int ((j:Nat):Int))] | none=>[])++mpl rs (j + 1))[i]?=some kv:=h
  cases e:x.nm with
  | none=>rw [e] at h'; exact tl i h'
  | some z =>
   rw [e] at h'
   cases i with
   | zero=>cases h'; exact ⟨z,0,rfl,by rw [Row.nm_some e]; rfl⟩
   | succ i=>exact tl i h'
theorem q0Q {κ:Type} [DecidableEq κ] {kvs:List (κ × V)} {k:κ} (h:k∉kvs.map (·.1)):vZ kvs k=none:=by
 cases e:vZ kvs k with
 | none=>rfl
 | some v=>exact absurd (c8Z e) h
def spMarkPlaces:Sp:=fun vs H Q _=>∃ (pr:Addr) (ur:List V) (rs:List Row),vs=[.ref pr]/\H pr=some (.lst ur)/\tX (lW H) ur rs/\rs.length<=60/\(mks rs).Nodup/\∀ (d:Addr) (H':Hp),H d=none->iQ H H'->H' d=some (.dK (mpl rs 0))->Q (.ref d) H'
def eU (vs:List (List Int)) (i:Nat):List (List Key × V):=((vs.reverse.take i).zipIdx).map fun x=>(tk x.1,V.int ((2 ^ x.2:Nat):Int))
def spBitOf:Sp:=fun vs H Q _=>∃ (pe:Addr) (us:List V) (vl:List (List Int)),vs=[.ref pe]/\mJ H pe us vl/\vl.Nodup/\vl.length<=400/\∀ (d:Addr) (H':Hp),H d=none->iQ H H'->H' d=some (.dT (eU vl vl.length))->Q (.ref d) H'
def dko (ks:List Str) (f:Str->Nat):List (Key × V):=ks.map fun z=>(Sum.inr z,V.int (f z:Nat))
theorem e8Q (ks:List Str) (f:Str->Nat):(dko ks f).map (·.1)=ks.map Sum.inr:=by unfold dko; rw [List.map_map]; rfl
theorem v8Z {ks:List Str} {f:Str->Nat} (nd:ks.Nodup) {z:Str} (h:z∈ks):vZ (dko ks f) (Sum.inr z:Key)=some (.int (f z:Nat)):=by
 refine a3Q (kv:=((Sum.inr z:Key),V.int (f z:Nat))) ?_ (List.mem_map.mpr ⟨z,h,rfl⟩)
 rw [e8Q]
 exact List.Pairwise.map _ (fun _ _ h z=>h (Sum.inr.inj z)) nd
theorem f8Q {ks:List Str} {f:Str->Nat} {z:Str} (h:z∉ks):vZ (dko ks f) (Sum.inr z:Key)=none:=q0Q (by
 rw [e8Q]
 intro hm
 obtain ⟨y,hy,e⟩:=List.mem_map.mp hm
 cases e
 exact h hy)
structure Cd (N:List Str) (kv:List (Key × V)) (f:Str->Nat):Prop where
 ex:∃ ks:List Str,kv=dko ks f/\ks.Nodup/\(∀ z∈ks,z∈N)/\∀ z,z∉ks->f z=0
theorem Cd.get {N:List Str} {kv:List (Key × V)} {f:Str->Nat} (h:Cd N kv f) (z:Str):(vZ kv (Sum.inr z:Key)).getD (.int 0) = .int (f z:Nat):=by
 obtain ⟨ks,rfl,nd,_,off⟩:=h.ex
 by_cases hz:z∈ks
 ·rw [v8Z nd hz]; rfl
 ·rw [f8Q hz,off z hz]; rfl
theorem o5Q:∀ {xs ys:List Str},xs.Nodup->(∀ x∈xs,x∈ys)->xs.length<=ys.length
 | [],ys,_,_=>Nat.zero_le _
 | x :: r,ys,hn,hs=>by
  have hx:x∈ys:=hs x List.mem_cons_self
  rw [List.nodup_cons] at hn
  have ih:=o5Q (xs:=r) (ys:=ys.erase x) hn.2 fun y hy=>(List.mem_erase_of_ne (fun e=>hn.1 (by rw [<-e]; exact hy))).mpr (hs y (List.mem_cons_of_mem _ hy))
  rw [List.length_erase_of_mem hx] at ih
  have:0 < ys.length:=List.length_pos_of_mem hx
  rw [List.length_cons]
  omega
theorem Cd.len {N:List Str} {kv:List (Key × V)} {f:Str->Nat} (h:Cd N kv f):kv.length<=N.length:=by
 obtain ⟨ks,rfl,nd,sub,_⟩:=h.ex
 unfold dko
 rw [List.length_map]
 exact o5Q nd sub
theorem Cd.nil {N:List Str}:Cd N [] (fun _=>0):=⟨[],rfl,List.nodup_nil,(fun z h=>nomatch h),fun _ _=>rfl⟩
theorem Cd.one {N:List Str} {z:Str} (n:Nat) (h:z∈N):Cd N [(Sum.inr z,.int (n:Nat))] (fun y=>if y=z then n else 0):=⟨[z],by unfold dko; simp,by simp,fun y hy=>by rw [List.mem_singleton.mp hy]; exact h,fun y hy=>if_neg (fun e=>hy (by rw [e]; exact List.mem_singleton.mpr rfl))⟩
theorem Cd.put {N:List Str} {kv:List (Key × V)} {f:Str->Nat} (h:Cd N kv f) {z:Str} (hz:z∈N) (n:Nat):Cd N (dX kv (Sum.inr z) (.int (n:Nat))) (fun y=>if y=z then n else f y):=by
 obtain ⟨ks,rfl,nd,sub,off⟩:=h.ex
 by_cases hk:z∈ks
 ·refine ⟨ks,?_,nd,sub,fun y hy=>by rw [if_neg (fun e=>hy (by rw [e]; exact hk))]; exact off y hy⟩
  unfold dX
  rw [if_pos (by
   rw [List.any_eq_true]
   exact ⟨_,List.mem_map.mpr ⟨z,hk,rfl⟩,decide_eq_true rfl⟩)]
  unfold dko
  rw [List.map_map]
  refine List.map_congr_left fun y _=>?_
  show (if (Sum.inr y:Key)=Sum.inr z then _ else _)=_
  by_cases e:y=z
  ·rw [if_pos (by rw [e])]
   show (_,V.int (n:Nat))=(_,V.int ((if y=z then n else f y:Nat):Int))
   rw [if_pos e]
  ·rw [if_neg (fun e'=>e (Sum.inr.inj e'))]
   show (_,V.int (f y:Nat))=(_,V.int ((if y=z then n else f y:Nat):Int))
   rw [if_neg e]
 ·rw [tY _ (f8Q hk)]
  refine ⟨ks++[z],?_,?_,?_,?_⟩
  ·unfold dko
   rw [List.map_append]
   congr 1
   ·refine List.map_congr_left fun y hy=>?_
    show (_,V.int (f y:Nat))=(_,V.int ((if y=z then n else f y:Nat):Int))
    rw [if_neg (fun e=>hk (by rw [<-e]; exact hy))]
   ·simp
  ·rw [List.nodup_append]
   exact ⟨nd,by simp,fun a ha b hb=>by rw [List.mem_singleton.mp hb]; exact fun e=>hk (e ▸ ha)⟩
  ·intro y hy
   rcases List.mem_append.mp hy with h1 | h1
   ·exact sub y h1
   ·rw [List.mem_singleton.mp h1]; exact hz
  ·intro y hy
   rw [if_neg (fun e=>hy (by rw [e]; exact List.mem_append_right _ (List.mem_singleton.mpr rfl)))]
   exact off y (fun h1=>hy (List.mem_append_left _ h1))
theorem v1X (a b:Nat):Builtin.bitOr (a:Int) (b:Int)=((a ||| b:Nat):Int):=by
 have h1:Builtin.bitNot (a:Int) < 0:=by unfold Builtin.bitNot; omega
 have h2:Builtin.bitNot (b:Int) < 0:=by unfold Builtin.bitNot; omega
 have e1:(Builtin.bitNot (Builtin.bitNot (a:Int))).toNat=a:=by unfold Builtin.bitNot; omega
 have e2:(Builtin.bitNot (Builtin.bitNot (b:Int))).toNat=b:=by unfold Builtin.bitNot; omega
 unfold Builtin.bitOr Builtin.bitAnd
 rw [decide_eq_false (Int.not_le.mpr h1),decide_eq_false (Int.not_le.mpr h2)]
 show Builtin.bitNot (Builtin.bitNot _)=_
 rw [e1,e2]
 unfold Builtin.bitNot
 omega
def b1Z (N:List Str):Sp:=fun vs H Q _=>∃ (c m:Addr) (kc km:List (Key × V)) (f g:Str->Nat),vs=[.ref c,.ref m]/\c≠m/\H c=some (.dK kc)/\Cd N kc f/\H m=some (.dK km)/\Cd N km g/\N.length<=60/\∀ (H':Hp) (kc':List (Key × V)),But c H H'->H' c=some (.dK kc')->Cd N kc' (fun z=>f z ||| g z)->Q .non H'
def eY (P:Program) (w:World):Sp:=fun vs H Q _=>∃ (pp pb pr p pz pt pe:Addr) (us ur:List V) (bs:List Box) (rs:List Row) (k:Nat) (ns:List Int),vs=[.ref pp,.ref p,.ref pt,.ref pe]/\bX H pp pb pr us ur bs rs/\fK H p k pz ns/\k<=rs.length /\
 ((∀ z,rs[k]?≠some (.mark z))->∃ (kvs:List (NKey × V)) (v:V),NkRd P w H pe kvs/\vZ kvs (Sum.inl (k:Int),tk ns)=some v/\Q v H) /\
 (∀ z,rs[k]?=some (.mark z)->∃ (kb:List (List Key × V)) (n:V),H pt=some (.dT kb)/\vZ kb (tk ns)=some n/\∀ (q:Addr) (H':Hp),H q=none->iQ H H'->H' q=some (.dK [(Sum.inr z,n)])->Q (.ref q) H')
section
theorem sV:yQ ["rows","places","place","row"] ["rows"] (gQ rJ):=(by wtm_at "f")
theorem nO (h:Has K mg "mark_places" rJ ["rows"]) (B:Blt mg):Cal P w K mg base 1 "mark_places" ["rows"] spMarkPlaces:=by
 refine h.cal sV (fun vs H Q E h=>?_) (fun f cdv A outer s H vs Q E hr h=>?_)
 ·obtain ⟨_,_,_,rfl,_⟩:=h
  rfl
 obtain ⟨pr,ur,rs,rfl,R,each,l60,nd,q⟩:=h
 have hu:=uY hr
 refine ⟨_,(bQ (qQ (i:=1) sV.nd rfl (Or.inl rfl) d0Q)
  (bQ (uZ PassesOwn.never rfl (e6Q rfl B.enumerate (aQ (pv 0) eQ)) (jK rfl (jZ (uQ (i:=2) sV.nd rfl (Or.inl rfl)) (jZ (uQ (i:=3) sV.nd rfl (Or.inl rfl)) dJ))) (fQ (cZ (rQ aZ (mQ pQ (pv 3) cQ (fun _ _=>rfl)) tQ (nQ _)) (fQ (lK hu (pv 1) (mQ pQ (pv 3) cQ (fun _ _=>rfl)) (pv 2) rfl)) sQ)))
  (fQ (oQ (pv 1))))),?_⟩
 intro d hd
 have s1:=iQ.new hd (.dK [])
 have d1:upd H d (.dK []) d=some (.dK []):=dQ
 generalize upd H d (.dK [])=H1 at *
 have hl:=each.1
 refine ⟨_,rfl,pr,rfl,⟨_,s1 _ _ R⟩,e3Q (a:=pr) (xs:=ur) (fun i σ H'=>(∃ c2 c3:Option V,σ=[some (.ref pr),some (.ref d),c2,c3])/\H' d=some (.dK (mpl (rs.take i) 0))/\iQ H H')
  ⟨⟨none,none,rfl⟩,d1,s1⟩ (fun i σ H' _ hh=>hh.2.2 _ _ R) ?_ ?_⟩
 ·rintro i x σ H2 T hi ⟨⟨c2,c3,rfl⟩,h2,s2⟩ hT
  obtain ⟨r,hr',hR⟩:=each.at hi
  obtain ⟨p,xs,rfl,hp⟩:=hR.head
  have il:i < rs.length:=(List.getElem?_eq_some_iff.mp hr').1
  have sT:=iQ.new hT (.tup [.int (i:Nat),.ref p])
  have h3:=sT _ _ h2
  have s3:=s2.trans sT
  refine ⟨T,_,rfl,SqT.of dQ,rfl,_,_,rfl,_,_,rfl,rfl,?_⟩
  generalize upd H2 T (.tup [.int (i:Nat),.ref p])=H3 at *
  have et:rs.take (i + 1)=rs.take i++[r]:=by rw [List.take_add_one,hr']; rfl
  cases er:r.nm with
  | none =>
   refine ⟨_,rfl,p,_,((0:Nat):Int),_,rfl,rfl,SqT.of (s3 _ _ hp),at0,rfl,_,rfl,nJ (by rw [dec_str]; exact decide_eq_false (Row.nm_none er)) ?_⟩
   refine ⟨⟨_,_,rfl⟩,?_,s3⟩
   rw [et,w3Q]
   have:mpl [r] (0 + (rs.take i).length)=[]:=by unfold mpl; rw [er]; rfl
   rw [this,List.append_nil]
   exact h3
  | some z =>
   obtain rfl:=Row.nm_some er
   obtain ⟨p',e',hp'⟩:=hR
   cases e'
   have hp':H p=some (.tup [.str "mark",.str z]):=hp'
   refine ⟨_,rfl,p,_,((0:Nat):Int),_,rfl,rfl,SqT.of (s3 _ _ hp'),rfl,rfl,_,rfl,rV (show decide (V.str "mark"=V.str "mark")=true by decide +kernel) ?_⟩
   have hz:z∉mks (rs.take i):=by
    have e1:mks rs=mks (rs.take i)++mks (rs.drop i):=by unfold mks; rw [<-List.filterMap_append,List.take_append_drop]
    have e2:rs.drop i = .mark z :: rs.drop (i + 1):=by
     rw [List.drop_eq_getElem_cons il]
     rw [List.getElem?_eq_getElem il] at hr'
     rw [Option.some.inj hr']
    rw [e1,e2] at nd
    intro hm
    exact (List.nodup_append.mp nd).2.2 z hm z (by simp [mks,Row.nm]) rfl
   have hv:vZ (mpl (rs.take i) 0) (Sum.inr z)=none:=q0Q (by
    rw [nU]
    intro hm
    obtain ⟨y,hy,e⟩:=List.mem_map.mp hm
    cases e
    exact hz hy)
   have kl:(mpl (rs.take i) 0).length<=60:=by
    have:=a1Z (rs.take i) 0
    have h2:=wK (rs.take i)
    rw [List.length_take] at h2
    omega
   refine ⟨_,rfl,_,rfl,_,rfl,p,_,((1:Nat):Int),_,rfl,rfl,SqT.of (s3 _ _ hp'),rfl,d,_,rfl,.inl ⟨_,Sum.inr z,h3,rfl,eZ (by omega),rfl⟩,?_⟩
   refine ⟨⟨_,_,rfl⟩,?_,fun c o e=>by rw [kQ (jQ e hd)]; exact s3 _ _ e⟩
   rw [dQ,tY _ hv,et,w3Q,List.length_take,Nat.min_eq_left (by omega)]
   show _=some (HO.dK (_++[(Sum.inr z,V.int ((0 + i:Nat):Int))]))
   rw [Nat.zero_add]
 rintro σ H2 ⟨⟨c2,c3,rfl⟩,h2,s2⟩
 rw [hl,List.take_length] at h2
 exact ⟨_,rfl,q d H2 hd s2 h2⟩
theorem r0Q:yQ ["every","told","bit","values"] ["every"] (gQ hW):=(by wtm_at "f")
theorem d6Z (h:Has K mg "bit_of_each" hW ["every"]) (B:Blt mg):Cal P w K mg base 1 "bit_of_each" ["every"] spBitOf:=by
 refine h.cal r0Q (fun vs H Q E h=>?_) (fun f cdv A outer s H vs Q E hr h=>?_)
 ·obtain ⟨_,_,_,rfl,_⟩:=h
  rfl
 obtain ⟨pe,us,vl,rfl,VL,nd,l400,q⟩:=h
 have hu:=uY hr
 refine ⟨_,(bQ (qQ (i:=1) r0Q.nd rfl (Or.inl rfl) m7Q)
  (bQ (qQ (i:=2) r0Q.nd rfl (Or.inl rfl) cQ)
  (bQ (uZ PassesOwn.never rfl (h5Z rfl B.reversed (pv 0)) (uQ (i:=3) r0Q.nd rfl (Or.inl rfl)) (bQ (lK hu (pv 1) (pv 3) (pv 2) rfl) (fQ (qQ (i:=2) r0Q.nd rfl (Or.inl rfl) (lQ aJ (pv 2) cQ)))))
  (fQ (oQ (pv 1)))))),?_⟩
 intro d hd
 have s1:=iQ.new hd (.dT [])
 have d1:upd H d (.dT []) d=some (.dT []):=dQ
 generalize upd H d (.dT [])=H1 at *
 have hl:=VL.each.1
 refine ⟨_,rfl,pe,us,rfl,SqL.of (s1 _ _ VL.at_),m8Z (K:=K) (a:=pe) (xs:=us) (fun i σ H'=>(∃ c3:Option V,σ=[some (.ref pe),some (.ref d),some (.int ((2 ^ i:Nat):Int)),c3])/\H' d=some (.dT (eU vl i))/\iQ H H')
  ⟨⟨none,rfl⟩,d1,s1⟩ (fun i σ H' _ hh=>SqL.of (hh.2.2 _ _ VL.at_)) ?_ ?_⟩
 ·rintro i x σ H2 hi ⟨⟨c3,rfl⟩,h2,s2⟩
  have il:i < us.length:=by have:=(List.getElem?_eq_some_iff.mp hi).1; rwa [List.length_reverse] at this
  have hi':=hi
  rw [List.getElem?_reverse il] at hi
  obtain ⟨v,hv,p,rfl,hp⟩:=VL.each.at hi
  have hvr:vl.reverse[i]?=some v:=by rw [List.getElem?_reverse (by omega),<-hl]; exact hv
  have ndr:vl.reverse.Nodup:=List.pairwise_reverse.mpr (nd.imp fun h=>Ne.symm h)
  have hno:vZ (eU vl i) (tk v)=none:=q0Q (by
   unfold eU
   rw [List.map_map]
   intro hm
   obtain ⟨y,hy,e⟩:=List.mem_map.mp hm
   have e:=v3Q e
   have hy2:=List.fst_mem_of_mem_zipIdx hy
   rw [e] at hy2
   obtain ⟨j,hj,ej⟩:=List.getElem_of_mem hy2
   rw [List.length_take] at hj
   rw [List.getElem_take] at ej
   have h1:=List.getElem?_eq_some_iff.mp hvr
   exact (List.pairwise_iff_getElem.mp ndr) j i (by omega) h1.1 (by omega) (ej.trans h1.2.symm))
  have bl:(eU vl i).length<=400:=by unfold eU; rw [List.length_map,List.length_zipIdx,List.length_take,List.length_reverse]; omega
  refine ⟨_,rfl,_,rfl,_,rfl,d,_,rfl,.inr ⟨_,tk v,p,h2,rfl,by rw [u1Q]; exact s2 _ _ hp,eZ (by omega),rfl⟩,?_⟩
  refine ⟨_,rfl,_,_,rfl,rfl,cmr (by decide) (by decide),?_⟩
  refine ⟨⟨some (.ref p),?_⟩,?_,fun c o e=>by rw [kQ (jQ e hd)]; exact s2 _ _ e⟩
  ·show _=[some (V.ref pe),some (V.ref d),some (V.int ((2 ^ (i + 1):Nat):Int)),some (V.ref p)]
   rw [Nat.pow_succ,Int.natCast_mul]
   rfl
  ·rw [dQ,tY _ hno]
   unfold eU
   rw [List.take_add_one,hvr]
   show _=some (HO.dT (((vl.reverse.take i++[v]).zipIdx).map _))
   rw [List.zipIdx_append,List.map_append,List.length_take,List.length_reverse,Nat.min_eq_left (by omega),Nat.zero_add]
   rfl
 rintro σ H2 ⟨⟨c3,rfl⟩,h2,s2⟩
 rw [hl] at h2
 exact ⟨_,rfl,q d H2 hd s2 h2⟩
theorem e6Z:yQ ["come","more","mark","bits"] ["come","more"] (gQ kJ):=(by wtm_at "f")
theorem w1X {N:List Str} (h:Has K mg "put_together" kJ ["come","more"]):Cal P w K mg base 1 "put_together" ["come","more"] (b1Z N):=by
 refine h.cal e6Z (fun vs H Q E h=>?_) (fun f cdv A outer s H vs Q E hr h=>?_)
 ·obtain ⟨_,_,_,_,_,_,rfl,_⟩:=h
  rfl
 obtain ⟨c,m,kc,km,f',g,rfl,ncm,hc,C,hm,M,n60,q⟩:=h
 have hu:=uY hr
 refine ⟨_,(fQ (l8Z (uZ PassesOwn.never rfl (u7Q (pv 1)) (jK rfl (jZ (uQ (i:=2) e6Z.nd rfl (Or.inl rfl)) (jZ (uQ (i:=3) e6Z.nd rfl (Or.inl rfl)) dJ))) (fQ (lK hu (pv 0) (pv 2) (lQ j2X (n7Q hu (pv 0) (pv 2) cQ ⟨rfl,rfl,rfl,rfl⟩) (pv 3)) rfl))))),?_⟩
 obtain ⟨ks,rfl,knd,ksub,koff⟩:=M.ex
 refine ⟨m,_,hm,_,rfl,m,_,rfl,hm,fun o=>g5Q (d:=m) (o:=o) (kvs:=dko ks g) (fun i σ H'=>∃ (kc':List (Key × V)),(∃ c2 c3:Option V,σ=[some (.ref c),some (.ref m),c2,c3])/\H' m=some (.frz o (.dK (dko ks g)))/\H' c=some (.dK kc')/\Cd N kc' (fun z=>if z∈ks.take i then f' z ||| g z else f' z)/\∀ b u,b≠c->b≠m->H b=some u->H' b=some u) ?_ (fun i σ H' _ hh=>by obtain ⟨_,_,h,_⟩:=hh; exact h) ?_ ?_⟩
 ·refine ⟨kc,⟨none,none,rfl⟩,dQ,by rw [kQ ncm]; exact hc,?_,fun b u n1 n2 e=>by rw [kQ n2]; exact e⟩
  have:(fun z=>if z∈ks.take 0 then f' z ||| g z else f' z)=f':=funext fun z=>if_neg (fun h=>nomatch h)
  rw [this]
  exact C
 ·rintro i kv σ H2 T hi ⟨kc',⟨c2,c3,rfl⟩,m2,h2,C2,k2⟩ hT
  unfold dko at hi
  rw [List.getElem?_map] at hi
  obtain ⟨z,hz,rfl⟩:=Option.map_eq_some_iff.mp hi
  have il:=(List.getElem?_eq_some_iff.mp hz).1
  have zN:=ksub z (List.mem_of_getElem? hz)
  have sT:=iQ.new hT (.tup [.str z,.int (g z:Nat)])
  have znot:z∉ks.take i:=fun hm=>by
   obtain ⟨j,hj,ej⟩:=List.getElem_of_mem hm
   rw [List.length_take] at hj
   rw [List.getElem_take] at ej
   have h1:=List.getElem?_eq_some_iff.mp hz
   exact (List.pairwise_iff_getElem.mp knd) j i (by omega) h1.1 (by omega) (ej.trans h1.2.symm)
  have hc3:upd H2 T (.tup [.str z,.int (g z:Nat)]) c=some (.dK kc'):=sT _ _ h2
  refine ⟨T,_,rfl,SqT.of dQ,rfl,_,_,rfl,_,_,rfl,rfl,?_⟩
  have cl:=C2.len
  have cg:=C2.get z
  rw [if_neg znot] at cg
  have m3:=sT _ _ m2
  have k3:∀ b u,b≠c->b≠m->H b=some u->upd H2 T (.tup [.str z,.int (g z:Nat)]) b=some u:=fun b u n1 n2 e=>sT _ _ (k2 b u n1 n2 e)
  refine ⟨_,rfl,c,rfl,.inl ⟨kc',.inl hc3⟩,_,rfl,_,aY.k (k:=Sum.inr z) hc3,?_⟩
  rw [cg]
  refine ⟨_,rfl,_,_,rfl,rfl,_,rfl,_,rfl,c,_,rfl,.inl ⟨_,Sum.inr z,hc3,rfl,eZ (by omega),rfl⟩,?_⟩
  refine ⟨_,⟨_,_,rfl⟩,by rw [kQ ncm.symm]; exact m3,dQ,?_,fun b u n1 n2 e=>by rw [kQ n1]; exact k3 b u n1 n2 e⟩
  have:=C2.put zN (f' z ||| g z)
  have ef:(fun y=>if y=z then f' z ||| g z else if y∈ks.take i then f' y ||| g y else f' y)=(fun y=>if y∈ks.take (i + 1) then f' y ||| g y else f' y):=funext fun y=>by
   rw [List.take_add_one,hz,show (some z).toList=[z] from rfl]
   by_cases ey:y=z
   ·rw [if_pos ey,ey,if_pos (List.mem_append_right _ (List.mem_singleton.mpr rfl))]
   ·rw [if_neg ey]
    by_cases hy:y∈ks.take i
    ·rw [if_pos hy,if_pos (List.mem_append_left _ hy)]
    ·rw [if_neg hy,if_neg (fun h=>(List.mem_append.mp h).elim hy (fun h=>ey (List.mem_singleton.mp h)))]
  rw [ef,<-v1X] at this
  exact this
 ·rintro σ H2 ⟨kc',⟨c2,c3,rfl⟩,m2,h2,C2,k2⟩
  refine ⟨o,m2,q _ kc' (fun a u n e=>?_) (by rw [kQ ncm]; exact h2) ?_⟩
  ·by_cases z:a=m
   ·subst z; rw [dQ,<-e,hm]
   ·rw [kQ z]; exact k2 a u n z e
  ·have hl:(dko ks g).length=ks.length:=by unfold dko; rw [List.length_map]
   have:(fun z=>if z∈ks.take (dko ks g).length then f' z ||| g z else f' z)=(fun z=>f' z ||| g z):=funext fun z=>by
    rw [hl,List.take_length]
    by_cases hz:z∈ks
    ·rw [if_pos hz]
    ·rw [if_neg hz,koff z hz,Nat.or_zero]
   rw [this] at C2
   exact C2
theorem x3Q:yQ ["program","standing","bits","behind","passed"] ["program","standing","bits","behind"] (gQ tW):=(by wtm_at "f")
theorem g8Q (h:Has K mg "come_from" tW ["program","standing","bits","behind"]) (cK:Cal P w K mg base 2 "kind_at" ["program","standing"] spKindAt) (cM:Cal P w K mg base 1 "mark_at" ["program","standing"] spMarkAt):Cal P w K mg base 3 "come_from" ["program","standing","bits","behind"] (eY P w):=by
 refine h.cal x3Q (fun vs H Q E h=>?_) (fun f cdv A outer s H vs Q E hr h=>?_)
 ·obtain ⟨_,_,_,_,_,_,_,_,_,_,_,_,_,rfl,_⟩:=h
  rfl
 obtain ⟨pp,pb,pr,p,pz,pt,pe,us,ur,bs,rs,row,ns,rfl,G,S,hrow,q1,q2⟩:=h
 have hu:=uY hr
 have hu3:(A.deeper _).units + 2 < cLine:=Nat.lt_of_le_of_lt (Nat.add_le_add_left (by decide:2<=64) _) hr.units
 have hr2:sZ 2 _:=hr
 have hr1:sZ 1 _:=hr.mono (by decide)
 refine ⟨_,(bQ (cZ (rQ b0Q (wQ cK hr2 rfl (aQ (pv 0) (aQ (pv 1) eQ))) tQ (nQ _)) (fQ (oQ (g6Q hu3 (pv 3) (pv 1) (fun _ _=>rfl)))) sQ)
  (bQ (qQ (i:=4) x3Q.nd rfl (Or.inl rfl) (wQ cM hr1 rfl (aQ (pv 0) (aQ (pv 1) eQ))))
  (fQ (oQ (x7Z (k4Z (mQ pQ (pv 4) cQ (fun _ _=>rfl)) (aV hu (pv 2) (mQ pQ (pv 4) cQ (fun _ _=>rfl)) (fun _ _=>rfl)) w7Z) rfl rfl (fun z=>nomatch z) (by show 1<=15; decide)))))),?_⟩
 refine ⟨_,rfl,_,rfl,pp,pb,pr,p,pz,us,ur,bs,rs,row,ns,rfl,G,S,hrow,?_⟩
 by_cases em:∃ z,rs[row]?=some (.mark z)
 ·obtain ⟨z,hz⟩:=em
  have hk:cJ rs row = "mark":=by unfold cJ; rw [hz]; rfl
  obtain ⟨kb,n,hpt,hn,q2⟩:=q2 z hz
  refine ⟨rfl,_,rfl,nJ (by rw [hk]; decide +kernel) ?_⟩
  refine ⟨_,rfl,_,rfl,pp,pb,pr,p,pz,us,ur,bs,rs,row,ns,z,rfl,G,S,hz,fun t ht=>?_⟩
  have st:=iQ.new ht (.tup [.str z,.ref pz])
  have t2:upd H t (.tup [.str z,.ref pz]) t=some (.tup [.str z,.ref pz]):=dQ
  generalize upd H t (.tup [.str z,.ref pz])=H2 at *
  intro d hd
  have sd:=iQ.new hd (.dK [])
  refine ⟨_,rfl,t,_,((0:Nat):Int),_,rfl,rfl,SqT.of (sd _ _ t2),rfl,_,rfl,_,rfl,t,_,((1:Nat):Int),_,rfl,rfl,SqT.of (sd _ _ t2),rfl,pt,n,rfl,?_,?_⟩
  ·rw [<-hn]
   exact aY.t (sd _ _ (st _ _ hpt)) (by rw [u1Q]; exact sd _ _ (st _ _ S.2))
  ·refine ⟨dQ,[(Sum.inr z,n)],rfl,by show 1<=15; decide,q2 d _ (iQ.free st hd) ?_ dQ⟩
   rw [k7Z]
   exact st.trans (iQ.new hd _)
 ·have nm:∀ z,rs[row]?≠some (.mark z):=fun z e=>em ⟨z,e⟩
  obtain ⟨kvs,v,N,hv,q1⟩:=q1 nm
  have hk:¬ cJ rs row = "mark":=by
   unfold cJ
   cases e:rs[row]? with
   | none=>exact (by decide +kernel:¬ (("stop":Str) = "mark"))
   | some r =>
    cases er:r.nm with
    | none=>exact Row.nm_none er
    | some z=>exact absurd (by rw [e,Row.nm_some er]) (nm z)
  refine ⟨rfl,_,rfl,rV (by rw [dec_str,decide_eq_false hk]; rfl) ?_⟩
  exact ⟨_,rfl,_,rfl,pe,p,(Sum.inl (row:Int),tk ns),kvs,v,rfl,rfl,⟨pz,S.1,by rw [u1Q]; exact S.2⟩,N,hv,q1⟩
end
theorem x9Q:∀ (rs:List Bool) (k:Nat),(bw rs.reverse).testBit k=rs.getD k false
 | [],k=>by
  show (0:Nat).testBit k=_
  rw [Nat.zero_testBit]
  rfl
 | b :: r,0=>by
  rw [List.reverse_cons,l6Q,Nat.testBit_zero]
  cases b
  ·simp
  ·simp
 | b :: r,k + 1=>by
  rw [List.reverse_cons,l6Q,Nat.testBit_succ]
  have:(bw r.reverse * 2 + if b=true then 1 else 0) / 2=bw r.reverse:=by cases b <;> simp <;> omega
  rw [this,x9Q r k]
  rfl
theorem o6Q (vl:List (List Int)) (s:Say) (k:Nat):(rowOf vl s).testBit k=true ↔ ∃ v,vl.reverse[k]?=some v/\s.so v=true:=by
 unfold rowOf
 have:=x9Q (vl.map fun v=>s.so v).reverse k
 rw [List.reverse_reverse] at this
 rw [this,<-List.map_reverse,List.getD_eq_getElem?_getD,List.getElem?_map]
 cases e:vl.reverse[k]? with
 | none=>exact ⟨(fun h=>nomatch h),fun ⟨v,h,_⟩=>nomatch h⟩
 | some v=>exact ⟨fun h=>⟨v,rfl,h⟩,fun ⟨u,h,hs⟩=>by cases h; exact hs⟩
theorem c3Z (b:Box):(rng b).Nodup:=List.Pairwise.map _ (fun _ _ h z=>h (by omega)) List.nodup_range
theorem s0Q (b:Box):∀ {vs:List (List Int)},vs.Nodup->(zZ vs b).Nodup
 | [],_=>List.nodup_nil
 | v :: r,h=>by
  have h':=List.nodup_cons.mp h
  have:=s0Q b h'.2
  unfold zZ at this ⊢
  rw [List.flatMap_cons,List.nodup_append]
  have h1:((rng b).map fun n=>v++[n]).Nodup:=List.Pairwise.map _ (fun a c hn z=>hn (List.singleton_inj.mp (List.append_cancel_left z))) (c3Z b)
  refine ⟨h1,this,fun a ha c hc z=>?_⟩
  ·obtain ⟨n,_,rfl⟩:=List.mem_map.mp ha
   obtain ⟨u,hu,hc⟩:=List.mem_flatMap.mp hc
   obtain ⟨m,_,rfl⟩:=List.mem_map.mp hc
   have:=List.append_inj_left' z rfl
   exact h'.1 (this ▸ hu)
theorem y3Q:∀ (bs:List Box) {acc:List (List Int)},acc.Nodup->(bs.foldl zZ acc).Nodup
 | [],_,h=>h
 | b :: r,_,h=>y3Q r (s0Q b h)
theorem xK (bs:List Box):(wZ bs).Nodup:=y3Q bs (by simp)
theorem h8Q {vl:List (List Int)} (nd:vl.Nodup) {k:Nat} {v:List Int} (h:vl.reverse[k]?=some v):vZ (eU vl vl.length) (tk v)=some (.int ((2 ^ k:Nat):Int)):=by
 have ndr:vl.reverse.Nodup:=List.pairwise_reverse.mpr (nd.imp fun h=>Ne.symm h)
 have e:vl.reverse.take vl.length=vl.reverse:=by rw [<-List.length_reverse,List.take_length]
 refine a3Q (kv:=(tk v,V.int ((2 ^ k:Nat):Int))) ?_ ?_
 ·unfold eU
  rw [e,List.map_map]
  show (List.map (fun x:List Int × Nat=>tk x.1) _).Nodup
  rw [show (List.map (fun x:List Int × Nat=>tk x.1) vl.reverse.zipIdx)=(vl.reverse.zipIdx.map Prod.fst).map tk from by rw [List.map_map]; rfl,List.zipIdx_map_fst]
  exact List.Pairwise.map _ (fun _ _ h z=>h (v3Q z)) ndr
 ·unfold eU
  rw [e]
  exact List.mem_map.mpr ⟨(v,k),List.mk_mem_zipIdx_iff_getElem?.mpr h,rfl⟩
def Vok (many:Nat) (vl:List (List Int)):Prop:=∀ v∈vl,v.length=many/\∀ n∈v,-1000 < n/\n < 1000
theorem z3Q {bs:List Box} (ok:∀ b∈bs,b.Ok):Vok bs.length (wZ bs):=fun v hv=>by
 have h:=mU ok hv
 refine ⟨h.1.symm,fun n hn=>?_⟩
 obtain ⟨i,hi⟩:=List.mem_iff_getElem?.mp hn
 have il:i < bs.length:=by have:=(List.getElem?_eq_some_iff.mp hi).1; have:=h.1; omega
 have hw:=h.2 i _ _ (List.getElem?_eq_getElem il) hi
 have hb:=ok _ (List.getElem_mem il)
 have h1:=hb.lo
 have h2:=hb.hi
 exact ⟨by omega,by omega⟩
theorem c1Z:∀ {bs:List Box} {acc:List (List Int)} {p ns:List Int},(∀ b∈bs,b.Ok)->p∈acc->Within bs ns->p++ns∈bs.foldl zZ acc
 | [],_,p,ns,_,h,w=>by
  have:ns=[]:=List.length_eq_zero_iff.mp w.1.symm
  rw [this,List.append_nil]
  exact h
 | b :: r,acc,p,[],_,_,w=>by cases w.1
 | b :: r,acc,p,n :: ns,ok,h,w=>by
  have hb:=ok b List.mem_cons_self
  have hn:=w.2 0 b n rfl rfl
  have w':Within r ns:=⟨by have:=w.1; simpa using this,fun i b' n' e1 e2=>w.2 (i + 1) b' n' (by simpa using e1) (by simpa using e2)⟩
  have:=c1Z (bs:=r) (acc:=zZ acc b) (p:=p++[n]) (fun c hc=>ok c (List.mem_cons_of_mem _ hc)) (List.mem_flatMap.mpr ⟨p,h,List.mem_map.mpr ⟨n,(z0Z hb).mpr hn,rfl⟩⟩) w'
  rwa [List.append_assoc] at this
theorem yK {bs:List Box} {ns:List Int} (ok:∀ b∈bs,b.Ok) (w:Within bs ns):ns∈wZ bs:=c1Z (acc:=[[]]) (p:=[]) ok (List.mem_singleton.mpr rfl) w
theorem d1Z {bs:List Box} {ns:List Int} (ok:∀ b∈bs,b.Ok) (w:Within bs ns):∃ k:Nat,(wZ bs).reverse[k]?=some ns:=List.mem_iff_getElem?.mp (List.mem_reverse.mpr (yK ok w))
theorem oO {bs:List Box} (ok:∀ b∈bs,b.Ok):Within bs (bs.map Box.fst):=by
 refine ⟨by rw [List.length_map],fun i b n e1 e2=>?_⟩
 rw [List.getElem?_map,e1] at e2
 cases e2
 have:=ok b (List.mem_of_getElem? e1)
 exact ⟨this.fl,this.fh⟩
def Bt (vl:List (List Int)) (f:Str->Nat) (S:Str->List Int->Prop):Prop:=∀ z j,(f z).testBit j=true ↔ ∃ v,vl.reverse[j]?=some v/\S z v
theorem Bt.zero {vl:List (List Int)} {S:Str->List Int->Prop} (h:∀ z v,¬ S z v):Bt vl (fun _=>0) S:=fun z j=>by
 rw [Nat.zero_testBit]
 exact ⟨(fun h=>nomatch h),fun ⟨v,_,hs⟩=>absurd hs (h z v)⟩
theorem Bt.or {vl:List (List Int)} {f g:Str->Nat} {S T:Str->List Int->Prop} (a:Bt vl f S) (b:Bt vl g T):Bt vl (fun z=>f z ||| g z) (fun z v=>S z v\/T z v):=fun z j=>by
 show (f z ||| g z).testBit j=true ↔ _
 rw [Nat.testBit_or,Bool.or_eq_true,a z j,b z j]
 exact ⟨fun h=>h.elim (fun ⟨v,e,s⟩=>⟨v,e,.inl s⟩) (fun ⟨v,e,s⟩=>⟨v,e,.inr s⟩),fun ⟨v,e,s⟩=>s.elim (fun s=>.inl ⟨v,e,s⟩) (fun s=>.inr ⟨v,e,s⟩)⟩
theorem Bt.congr {vl:List (List Int)} {f:Str->Nat} {S T:Str->List Int->Prop} (a:Bt vl f S) (h:∀ z v,S z v ↔ T z v):Bt vl f T:=fun z j=>by
 rw [a z j]
 exact ⟨fun ⟨v,e,s⟩=>⟨v,e,(h z v).mp s⟩,fun ⟨v,e,s⟩=>⟨v,e,(h z v).mpr s⟩⟩
theorem Bt.one {vl:List (List Int)} (nd:vl.Nodup) {k:Nat} {u:List Int} (h:vl.reverse[k]?=some u) (y:Str):Bt vl (fun z=>if z=y then 2 ^ k else 0) (fun z v=>y=z/\v=u):=fun z j=>by
 have ndr:vl.reverse.Nodup:=List.pairwise_reverse.mpr (nd.imp fun h=>Ne.symm h)
 show (if z=y then 2 ^ k else 0).testBit j=true ↔ _
 by_cases e:z=y
 ·rw [if_pos e,Nat.testBit_two_pow]
  constructor
  ·intro h1
   have h1:=of_decide_eq_true h1
   subst h1
   exact ⟨u,h,e.symm,rfl⟩
  ·rintro ⟨v,hv,_,rfl⟩
   obtain ⟨l1,e1⟩:=List.getElem?_eq_some_iff.mp h
   obtain ⟨l2,e2⟩:=List.getElem?_eq_some_iff.mp hv
   refine decide_eq_true ?_
   rcases Nat.lt_trichotomy k j with h3 | h3 | h3
   ·exact absurd (e1.trans e2.symm) ((List.pairwise_iff_getElem.mp ndr) k j l1 l2 h3)
   ·exact h3
   ·exact absurd (e2.trans e1.symm) ((List.pairwise_iff_getElem.mp ndr) j k l2 l1 h3)
 ·rw [if_neg e,Nat.zero_testBit]
  exact ⟨(fun h=>nomatch h),fun ⟨v,_,h1,_⟩=>absurd h1.symm e⟩
theorem Bt.keep {vl:List (List Int)} {f:Str->Nat} {S:Str->List Int->Prop} (a:Bt vl f S) (z:Str) (s:Say):(f z &&& rowOf vl s=f z) ↔ ∀ v∈vl,S z v->s.so v=true:=by
 constructor
 ·intro h v hv hs
  obtain ⟨j,hj⟩:=List.mem_iff_getElem?.mp (List.mem_reverse.mpr hv)
  have h1:=(a z j).mpr ⟨v,hj,hs⟩
  rw [<-h,Nat.testBit_and,Bool.and_eq_true,o6Q] at h1
  obtain ⟨u,hu,hso⟩:=h1.2
  rw [hj] at hu
  cases hu
  exact hso
 ·intro h
  refine Nat.eq_of_testBit_eq fun j=>?_
  rw [Nat.testBit_and]
  cases e:(f z).testBit j with
  | false=>rfl
  | true =>
   obtain ⟨v,hv,hs⟩:=(a z j).mp e
   rw [(o6Q vl s j).mpr ⟨v,hv,h v (List.mem_reverse.mp (List.mem_of_getElem? hv)) hs⟩]
   rfl
inductive Cm (bs:List Box) (rs:List Row):Nat->List Int->Str->List Int->Prop
 | here {k k':Nat} {ns ns':List Int} {z:Str}:(k',ns')∈beh bs rs k ns->rs[k']?=some (.mark z)->Cm bs rs k ns z ns'
 | on {k k':Nat} {ns ns':List Int} {z:Str} {v:List Int}:(k',ns')∈beh bs rs k ns->(∀ y,rs[k']?≠some (.mark y))->Cm bs rs k' ns' z v->Cm bs rs k ns z v
def Cf (bs:List Box) (rs:List Row) (s:Nat × List Int) (z:Str) (v:List Int):Prop:=(rs[s.1]?=some (.mark z)/\v=s.2)\/((∀ y,rs[s.1]?≠some (.mark y))/\Cm bs rs s.1 s.2 z v)
theorem p6Q {bs:List Box} {rs:List Row} {k:Nat} {ns:List Int} {z:Str} {v:List Int}:Cm bs rs k ns z v ↔ ∃ s∈beh bs rs k ns,Cf bs rs s z v:=by
 constructor
 ·intro h
  cases h with
  | here h1 h2=>exact ⟨_,h1,.inl ⟨h2,rfl⟩⟩
  | on h1 h2 h3=>exact ⟨_,h1,.inr ⟨h2,h3⟩⟩
 ·rintro ⟨⟨k',ns'⟩,h1,⟨h2,rfl⟩ | ⟨h2,h3⟩⟩
  ·exact .here h1 h2
  ·exact .on h1 h2 h3
theorem p5Q {bs:List Box} {rs:List Row} (aims:∀ r∈rs,r.Aims rs) {k:Nat} {ns:List Int} {z:Str} {v:List Int} (h:Cm bs rs k ns z v) (hw:Within bs ns):Within bs v/\z∈mks rs:=by
 induction h with
 | here h1 h2=>exact ⟨(r3Q hw aims h1).1,List.mem_filterMap.mpr ⟨_,List.mem_of_getElem? h2,rfl⟩⟩
 | on h1 _ _ ih=>exact ih (r3Q hw aims h1).1
def Gd (bs:List Box) (rs:List Row) (kvs:List (NKey × V)) (H:Hp) (k:Nat) (v:List Int):Prop:=∃ (c:Addr) (kv:List (Key × V)) (f:Str->Nat),vZ kvs (Sum.inl (k:Int),tk v)=some (.ref c)/\H c=some (.dK kv)/\Cd (mks rs) kv f/\Bt (wZ bs) f (Cm bs rs k v)
def Gx (bs:List Box) (rs:List Row) (x:Addr) (kvs:List (NKey × V)) (H:Hp) (k:Nat) (v:List Int):Prop:=∃ (c:Addr) (kv:List (Key × V)) (f:Str->Nat),c≠x/\vZ kvs (Sum.inl (k:Int),tk v)=some (.ref c)/\H c=some (.dK kv)/\Cd (mks rs) kv f/\Bt (wZ bs) f (Cm bs rs k v)
theorem Gx.but {bs:List Box} {rs:List Row} {x:Addr} {kvs:List (NKey × V)} {H H':Hp} {k:Nat} {v:List Int} (h:Gx bs rs x kvs H k v) (s:But x H H'):Gx bs rs x kvs H' k v:=by
 obtain ⟨c,kv,f,n,e,hc,C,B⟩:=h
 exact ⟨c,kv,f,n,e,s _ _ n hc,C,B⟩
theorem Gd.new {bs:List Box} {rs:List Row} {x:Addr} {kvs:List (NKey × V)} {H:Hp} {k:Nat} {v:List Int} (h:Gd bs rs kvs H k v) (hx:H x=none) (o:HO):Gx bs rs x kvs (upd H x o) k v:=by
 obtain ⟨c,kv,f,e,hc,C,B⟩:=h
 have n:c≠x:=fun z=>by rw [z,hx] at hc; cases hc
 exact ⟨c,kv,f,n,e,by rw [kQ n]; exact hc,C,B⟩
def t0Q (P:Program) (w:World):Sp:=fun vs H Q _=>∃ (pp pb pr pe pt:Addr) (us ur uv:List V) (bs:List Box) (rs:List Row),vs=[.ref pp,.ref pe,.ref pt]/\bX H pp pb pr us ur bs rs/\xW bs rs/\mJ H pe uv (wZ bs)/\H pt=some (.dT (eU (wZ bs) (wZ bs).length)) /\
 ∀ (d:Addr) (H':Hp) (kvs:List (NKey × V)),H d=none->iQ H H'->rX P w H' d kvs->(∀ k,k<=rs.length->∀ v∈wZ bs,Gd bs rs kvs H' k v)->Q (.ref d) H'
section
theorem tJ:yQ ["program","every","bits","behind","row","values","come","standing"] ["program","every","bits"] (gQ sJ):=(by wtm_at "f")
theorem o4Q (h:Has K mg "come_behind" sJ ["program","every","bits"]) (B:Blt mg) (cB:Cal P w K mg base 19 "standings_behind" ["program","standing"] spBehind) (cF:Cal P w K mg base 3 "come_from" ["program","standing","bits","behind"] (eY P w)) (cP:∀ N,Cal P w K mg base 1 "put_together" ["come","more"] (b1Z N)):Cal P w K mg base 20 "come_behind" ["program","every","bits"] (t0Q P w):=by
 refine h.cal tJ (fun vs H Q E h=>?_) (fun f cdv A outer s H vs Q E hr h=>?_)
 ·obtain ⟨_,_,_,_,_,_,_,_,_,_,rfl,_⟩:=h
  rfl
 obtain ⟨pp,pb,pr,pe,pt,us,ur,uv,bs,rs,rfl,G,O,VL,hpt,q⟩:=h
 have hu3:(A.deeper _).units + 2 < cLine:=Nat.lt_of_le_of_lt (Nat.add_le_add_left (by decide:2<=64) _) hr.units
 have hr19:sZ 19 _:=hr
 have hr3:sZ 3 _:=hr.mono (by decide)
 have hr1:sZ 1 _:=hr.mono (by decide)
 refine ⟨_,(bQ (qQ (i:=3) tJ.nd rfl (Or.inl rfl) k0Q)
  (bQ (uZ PassesOwn.never rfl (i2Z rfl B.range (aQ (bZ dZ rfl B.len pX (aQ (mQ pQ (pv 0) cQ (fun _ _=>rfl)) eQ)) (aQ (o2Q qO cQ) (aQ (o2Q qO cQ) eQ)))) (uQ (i:=4) tJ.nd rfl (Or.inl rfl)) (fQ (uZ PassesOwn.never rfl (xZ (pv 1)) (uQ (i:=5) tJ.nd rfl (Or.inl rfl)) (bQ (qQ (i:=6) tJ.nd rfl (Or.inl rfl) d0Q)
  (bQ (uZ PassesOwn.never rfl (xZ (wQ cB hr19 rfl (aQ (pv 0) (aQ (iZ (aQ (pv 4) (aQ (pv 5) eQ))) eQ)))) (uQ (i:=7) tJ.nd rfl (Or.inl rfl)) (fQ (lX (wQ (cP (mks rs)) hr1 rfl (aQ (pv 6) (aQ (wQ cF hr3 rfl (aQ (pv 0) (aQ (pv 7) (aQ (pv 2) (aQ (pv 3) eQ))))) eQ))))))
  (fQ (g2Q hu3 (pv 3) (iZ (aQ (pv 4) (aQ (pv 5) eQ))) (pv 6) rfl)))))))
  (fQ (oQ (pv 3))))),?_⟩
 intro d hd hsy
 have s1:=iQ.new hd (PkO P w d [])
 have N1:rX P w (upd H d (PkO P w d [])) d []:=rX.new hsy
 show fX 3 (V.ref d) _ (upd H d (PkO P w d [])) _
 generalize upd H d (PkO P w d [])=H1 at *
 have hl:=G.each.1
 have hvl:=VL.each.1
 have l60:=O.l60
 have al:(wZ bs).length<=400:=by rw [lV]; exact O.vol
 have nda:=xK bs
 have m60:(mks rs).length<=60:=Nat.le_trans (wK rs) l60
 refine ⟨_,rfl,pp,_,((1:Nat):Int),_,rfl,rfl,SqT.of (s1 _ _ G.prog),rfl,pr,_,rfl,.inl (SqL.of (s1 _ _ G.ro)),_,rfl,_,rfl,_,rfl,by omega,by omega,?_⟩
 have nD:∀ {H':Hp} {kvs:List (NKey × V)} {c:Addr} {o:HO},rX P w H' d kvs->H' c=some o->(∀ φ,o ≠ .ext φ)->c≠d:=fun N hc ho z=>by
  obtain ⟨φ,e⟩:=N.there
  rw [z,e] at hc
  exact ho φ (Option.some.inj hc).symm
 refine c5Z (a:=(ur.length:Int)) (n:=rs.length + 1) (fun i σ H'=>(∃ c4 c5 c6 c7:Option V,σ=[some (.ref pp),some (.ref pe),some (.ref pt),some (.ref d),c4,c5,c6,c7])/\iQ H H'/\∃ kvs,rX P w H' d kvs/\kvs.length<=(rs.length + 1 - i) * 400/\∀ k,i<=k->k<=rs.length->∀ v∈wZ bs,Gd bs rs kvs H' k v) (by rw [hl]; omega)
  ⟨⟨none,none,none,none,rfl⟩,s1,[],N1,Nat.zero_le _,fun k h1 h2=>by omega⟩ ?_ ?_
 ·rintro i σ H2 hi ⟨⟨c4,c5,c6,c7,rfl⟩,s2,kvs,N2,kl,g2⟩
  refine ⟨_,rfl,pe,rfl,⟨_,SqL.of (s2 _ _ VL.at_)⟩,kX (K:=K) (a:=pe) (xs:=uv) (fun j σ H'=>(∃ c5 c6 c7:Option V,σ=[some (.ref pp),some (.ref pe),some (.ref pt),some (.ref d),some (.int (i:Nat)),c5,c6,c7])/\iQ H H'/\∃ kvs,rX P w H' d kvs/\kvs.length<=(rs.length + 1 - (i + 1)) * 400 + j/\(∀ k,i + 1<=k->k<=rs.length->∀ v∈wZ bs,Gd bs rs kvs H' k v)/\∀ v∈(wZ bs).take j,Gd bs rs kvs H' i v)
   ⟨⟨_,_,_,rfl⟩,s2,kvs,N2,by omega,g2,fun v hv=>nomatch hv⟩ (fun j σ H' _ hh=>SqL.of (hh.2.1 _ _ VL.at_)) ?_ ?_⟩
  ·rintro j x σ H3 hj ⟨⟨c5,c6,c7,rfl⟩,s3,kvs,N3,kl3,g3,f3⟩
   obtain ⟨v,hv,pz,rfl,hpz⟩:=VL.each.at hj
   have jl:j < (wZ bs).length:=(List.getElem?_eq_some_iff.mp hv).1
   have hvm:=List.mem_of_getElem? hv
   have Wv:=mU G.ok hvm
   intro c hc
   have sc:=iQ.new hc (.dK [])
   have c4':upd H3 c (.dK []) c=some (.dK []):=dQ
   have N4:=N3.same sc
   have g4:∀ k,i + 1<=k->k<=rs.length->∀ v∈wZ bs,Gx bs rs c kvs (upd H3 c (.dK [])) k v:=fun k a b v hv=>(g3 k a b v hv).new hc _
   have f4:∀ v∈(wZ bs).take j,Gx bs rs c kvs (upd H3 c (.dK [])) i v:=fun v hv=>(f3 v hv).new hc _
   have s4:=s3.trans sc
   have cH:H c=none:=iQ.free s3 hc
   show fX 6 (V.ref c) _ (upd H3 c (.dK [])) _
   generalize upd H3 c (.dK [])=H4 at *
   refine ⟨_,rfl,_,rfl,_,rfl,(by show 2<=sizeLine; decide),fun p hp=>?_⟩
   have sp:=iQ.new hp (.tup [.int (i:Nat),.ref pz])
   have S5:fK (upd H4 p (.tup [.int (i:Nat),.ref pz])) p i pz v:=⟨dQ,sp _ _ (s4 _ _ hpz)⟩
   have s5:=s4.trans sp
   generalize upd H4 p (.tup [.int (i:Nat),.ref pz])=H5 at *
   refine ⟨pp,pb,pr,p,pz,us,ur,bs,rs,i,v,rfl,G.same s5,O,S5,by omega,Wv,fun l ul H6 hl6 s6 l6 A6=>?_⟩
   have s46:=sp.trans s6
   have N6:=N4.same s46
   have c6':=s46 _ _ c4'
   have g6:∀ k,i + 1<=k->k<=rs.length->∀ v∈wZ bs,Gx bs rs c kvs H6 k v:=fun k a b v hv=>(g4 k a b v hv).but (But.of s46)
   have f6:∀ v∈(wZ bs).take j,Gx bs rs c kvs H6 i v:=fun v hv=>(f4 v hv).but (But.of s46)
   have s06:=s5.trans s6
   have ncl:l≠c:=fun z=>by rw [z,s46 _ _ c4'] at l6; cases l6
   have dne:∀ {b:Addr} {H':Hp},But c H6 H'->b≠c->H6 b≠none->True:=fun _ _ _=>trivial
   refine ⟨l,rfl,⟨_,SqL.of l6⟩,kX (K:=K) (a:=l) (xs:=ul) (fun m σ H'=>(∃ c7:Option V,σ=[some (.ref pp),some (.ref pe),some (.ref pt),some (.ref d),some (.int (i:Nat)),some (.ref pz),some (.ref c),c7])/\But c H6 H'/\∃ (kv:List (Key × V)) (f:Str->Nat),H' c=some (.dK kv)/\Cd (mks rs) kv f/\Bt (wZ bs) f (fun z u=>∃ s∈(beh bs rs i v).take m,Cf bs rs s z u))
    ⟨⟨_,rfl⟩,But.refl _ _,[],(fun _=>0),c6',Cd.nil,Bt.zero fun z u ⟨s,hs,_⟩=>nomatch hs⟩ (fun m σ H' _ hh=>SqL.of (hh.2.1 _ _ ncl l6)) ?_ ?_⟩
   ·rintro m y σ H7 hm ⟨⟨c7,rfl⟩,b7,kv,f,c7',C7,B7⟩
    obtain ⟨⟨k',ns'⟩,hs,qq,pz',rfl,S6⟩:=A6.at hm
    have hsm:=List.mem_of_getElem? hs
    obtain ⟨W',il,hk'⟩:=r3Q Wv O.aims hsm
    have tupc:∀ {b:Addr} {xs:List V},H6 b=some (.tup xs)->H7 b=some (.tup xs):=fun h=>b7 _ _ (fun z=>by rw [z,c6'] at h; cases h) h
    have S7:fK H7 qq k' pz' ns':=⟨tupc S6.1,tupc S6.2⟩
    have H0c:∀ {b:Addr} {o:HO},H b=some o->H7 b=some o:=fun h=>b7 _ _ (jQ h cH) (s06 _ _ h)
    have G7:bX H7 pp pb pr us ur bs rs:=G.same fun b o h=>H0c h
    have hpt7:=H0c hpt
    have ndc:c≠d:=nD N6 c6' (fun _ z=>nomatch z)
    have N7:rX P w H7 d kvs:=N6.keep (fun o e=>b7 _ _ ndc.symm e) (fun _ _ h=>tupc h)
    have kle:k'<=rs.length:=by
     rcases hk' with rfl | ⟨z,hz⟩
     ·exact il
     ·exact Nat.le_of_lt (List.getElem?_eq_some_iff.mp hz).1
    obtain ⟨kn,hkn⟩:=d1Z G.ok W'
    have step:∀ (H8:Hp) (mm:Addr) (km:List (Key × V)) (g:Str->Nat),iQ H7 H8->mm≠c->H8 mm=some (.dK km)->Cd (mks rs) km g->Bt (wZ bs) g (Cf bs rs (k',ns'))->b1Z (mks rs) [.ref c,.ref mm] H8 (fun _ H9=>(∃ c7:Option V,([some (.ref pp),some (.ref pe),some (.ref pt),some (.ref d),some (.int (i:Nat)),some (.ref pz),some (.ref c),some (.ref qq)]:St)=[some (.ref pp),some (.ref pe),some (.ref pt),some (.ref d),some (.int (i:Nat)),some (.ref pz),some (.ref c),c7])/\But c H6 H9/\∃ (kv:List (Key × V)) (f:Str->Nat),H9 c=some (.dK kv)/\Cd (mks rs) kv f/\Bt (wZ bs) f (fun z u=>∃ s∈(beh bs rs i v).take (m + 1),Cf bs rs s z u)) E0:=fun H8 mm km g s8 nmc hmm Cg Bg=>by
     refine ⟨c,mm,kv,km,f,g,rfl,nmc.symm,s8 _ _ c7',C7,hmm,Cg,m60,fun H9 kv9 b9 c9 C9=>⟨⟨_,rfl⟩,b7.trans ((But.of s8).trans b9),kv9,_,c9,C9,?_⟩⟩
     refine (B7.or Bg).congr fun z u=>?_
     rw [List.take_add_one,hs]
     constructor
     ·rintro (⟨s,h1,h2⟩ | h)
      ·exact ⟨s,List.mem_append_left _ h1,h2⟩
      ·exact ⟨_,List.mem_append_right _ (List.mem_singleton.mpr rfl),h⟩
     ·rintro ⟨s,h1,h2⟩
      rcases List.mem_append.mp h1 with h1 | h1
      ·exact .inl ⟨s,h1,h2⟩
      ·rw [List.mem_singleton.mp h1] at h2
       exact .inr h2
    refine ⟨_,rfl,_,rfl,_,rfl,_,rfl,_,rfl,pp,pb,pr,qq,pz',pt,d,us,ur,bs,rs,k',ns',rfl,G7,S7,kle,fun nm=>?_,fun z hz=>?_⟩
    ·have ek:k'=i + 1:=by
      rcases hk' with h | ⟨z,hz⟩
      ·exact h
      ·exact absurd hz (nm z)
     subst ek
     obtain ⟨mm,km,g,nmc,ev,hmm,Cg,Bg⟩:=(g6 (i + 1) (Nat.le_refl _) kle ns' (yK G.ok W')).but b7
     refine ⟨kvs,.ref mm,N7.rd,ev,step H7 mm km g (iQ.refl _) nmc hmm Cg (Bg.congr fun z u=>?_)⟩
     exact ⟨fun h=>.inr ⟨nm,h⟩,fun h=>h.elim (fun h=>absurd h.1 (nm z)) (fun h=>h.2)⟩
    ·refine ⟨_,.int ((2 ^ kn:Nat):Int),hpt7,h8Q nda hkn,fun mm H8 hmm s8 m8=>?_⟩
     have nmc:mm≠c:=fun e=>by rw [e,c7'] at hmm; cases hmm
     refine step H8 mm _ _ s8 nmc m8 (Cd.one (2 ^ kn) (List.mem_filterMap.mpr ⟨_,List.mem_of_getElem? hz,rfl⟩)) ((Bt.one nda hkn z).congr fun y u=>?_)
     constructor
     ·rintro ⟨rfl,rfl⟩
      exact .inl ⟨hz,rfl⟩
     ·rintro (⟨h1,h2⟩ | ⟨h1,_⟩)
      ·rw [hz] at h1
       cases h1
       exact ⟨rfl,h2⟩
      ·exact absurd hz (h1 z)
   rintro σ H7 ⟨⟨c7,rfl⟩,b7,kv,f,c7',C7,B7⟩
   have hbl:=A6.1
   rw [hbl,List.take_length] at B7
   have B7:Bt (wZ bs) f (Cm bs rs i v):=B7.congr fun z u=>p6Q.symm
   refine ⟨_,rfl,_,rfl,_,rfl,_,rfl,(by show 2<=sizeLine; decide),fun t ht=>?_⟩
   have st:=iQ.new ht (.tup [.int (i:Nat),.ref pz])
   have t8:upd H7 t (.tup [.int (i:Nat),.ref pz]) t=some (.tup [.int (i:Nat),.ref pz]):=dQ
   have b8:But c H6 (upd H7 t (.tup [.int (i:Nat),.ref pz])):=b7.trans (But.of st)
   have c8:=st _ _ c7'
   generalize upd H7 t (.tup [.int (i:Nat),.ref pz])=H8 at *
   have tupc:∀ {b:Addr} {xs:List V},H6 b=some (.tup xs)->H8 b=some (.tup xs):=fun h=>b8 _ _ (fun z=>by rw [z,c6'] at h; cases h) h
   have ndc:c≠d:=nD N6 c6' (fun _ z=>nomatch z)
   have N8:rX P w H8 d kvs:=N6.keep (fun o e=>b8 _ _ ndc.symm e) (fun _ _ h=>tupc h)
   have H0c:∀ {b:Addr} {o:HO},H b=some o->H8 b=some o:=fun h=>b8 _ _ (jQ h cH) (s06 _ _ h)
   have kb:kvs.length < 100000:=by
    have:(rs.length + 1 - (i + 1)) * 400<=61 * 400:=Nat.mul_le_mul_right _ (by omega)
    omega
   refine ⟨d,t,(Sum.inl (i:Int),tk v),kvs,rfl,rfl,⟨pz,t8,by rw [u1Q]; exact H0c hpz⟩,N8,Nat.lt_of_lt_of_le kb (h2Q (Nat.le_refl _)),fun H9 keep N9=>?_⟩
   have s9:∀ {a:Addr} {o:HO},H8 a=some o->(∀ φ,o ≠ .ext φ)->H9 a=some o:=fun h1 h2=>by rw [keep _ (nD N8 h1 h2)]; exact h1
   have gd:∀ (k:Nat) (v':List Int),Gx bs rs c kvs H8 k v'->((Sum.inl (k:Int),tk v'):NKey)≠(Sum.inl (i:Int),tk v)->Gd bs rs (dX kvs (Sum.inl (i:Int),tk v) (.ref c)) H9 k v':=fun k v' ⟨c',kv',f',n',e,h',C',B'⟩ ek =>
    ⟨c',kv',f',by rw [bJ,if_neg ek]; exact e,s9 h' (fun _ z=>nomatch z),C',B'⟩
   have mine:Gd bs rs (dX kvs (Sum.inl (i:Int),tk v) (.ref c)) H9 i v:=⟨c,kv,f,by rw [bJ,if_pos rfl],s9 c8 (fun _ z=>nomatch z),C7,B7⟩
   refine ⟨⟨_,_,_,rfl⟩,fun a o e=>?_,_,N9,?_,fun k a b v' hv'=>gd k v' ((g6 k a b v' hv').but b8) (fun z=>by have:=Sum.inl.inj (congrArg Prod.fst z); omega),fun v' hv'=>?_⟩
   ·rw [keep a (jQ e hd)]
    exact H0c e
   ·have:(dX kvs ((Sum.inl (i:Int),tk v):NKey) (.ref c)).length<=kvs.length + 1:=fV _ _ _
    omega
   ·rw [List.take_add_one,hv] at hv'
    by_cases ev:v'=v
    ·rw [ev]; exact mine
    ·rcases List.mem_append.mp hv' with h1 | h1
     ·exact gd i v' ((f6 v' h1).but b8) (fun z=>ev (v3Q (congrArg Prod.snd z)))
     ·exact absurd (List.mem_singleton.mp h1) ev
  ·rintro σ H3 ⟨⟨c5,c6,c7,rfl⟩,s3,kvs,N3,kl3,g3,f3⟩
   refine ⟨⟨_,_,_,_,rfl⟩,s3,kvs,N3,?_,fun k a b v hv=>?_⟩
   ·have:rs.length + 1 - i=rs.length + 1 - (i + 1) + 1:=by omega
    rw [this,Nat.succ_mul]
    omega
   ·rcases Nat.eq_or_lt_of_le a with e | e
    ·subst e
     exact f3 v (by rw [hvl,List.take_length]; exact hv)
    ·exact g3 k e b v hv
 ·rintro σ H2 ⟨⟨c4,c5,c6,c7,rfl⟩,s2,kvs,N2,kl,g2⟩
  exact ⟨_,rfl,q d H2 kvs hd s2 N2 fun k hk v hv=>g2 k (Nat.zero_le _) hk v hv⟩
end
def StIn (st:List (NKey × V)) (s:Nat × List Int):Prop:=(vZ st (Sum.inl ((s.1:Nat):Int),tk s.2)).isSome=true
def MtIn (mt:List (NKey × V)) (z:Str) (v:List Int):Prop:=(vZ mt (Sum.inr z,tk v)).isSome=true
structure Mw (bs:List Box) (rs:List Row) (S0 ss:List (Nat × List Int)) (mt st:List (NKey × V)):Prop where
 mtk:∀ kv∈mt,∃ z v,kv.1=(Sum.inr z,tk v)/\Within bs v/\z∈mks rs/\∃ s∈S0,Cf bs rs s z v
 stk:∀ kv∈st,∃ (k:Nat) (ns:List Int),kv.1=(Sum.inl (k:Int),tk ns)/\k<=rs.length/\Within bs ns
 ssk:∀ s∈ss,s.1<=rs.length/\Within bs s.2/\∀ z v,Cf bs rs s z v->∃ s0∈S0,Cf bs rs s0 z v
 ini:∀ s∈S0,StIn st s\/s∈ss
 clo:∀ s,StIn st s->(∃ z,rs[s.1]?=some (.mark z)/\MtIn mt z s.2)\/((∀ y,rs[s.1]?≠some (.mark y))/\∀ s'∈beh bs rs s.1 s.2,StIn st s'\/s'∈ss)
theorem q6Q {κ:Type} [DecidableEq κ] {kvs:List (κ × V)} {k:κ} {y:V} {kv:κ × V} (h:kv∈dX kvs k y):kv.1=k\/∃ kv'∈kvs,kv'.1=kv.1:=by
 unfold dX at h
 split at h
 ·obtain ⟨a,ha,rfl⟩:=List.mem_map.mp h
  by_cases e:a.1=k
  ·rw [if_pos e]; exact .inl e
  ·rw [if_neg e]; exact .inr ⟨a,ha,rfl⟩
 ·rcases List.mem_append.mp h with h | h
  ·exact .inr ⟨kv,h,rfl⟩
  ·rw [List.mem_singleton.mp h]; exact .inl rfl
theorem oU {κ:Type} [DecidableEq κ] {kvs:List (κ × V)} {k j:κ} {y:V} (h:(vZ kvs j).isSome=true):(vZ (dX kvs k y) j).isSome=true:=by
 rw [bJ]
 split
 ·rfl
 ·exact h
theorem u0Q {κ:Type} [DecidableEq κ] {kvs:List (κ × V)} {k:κ} {y:V}:(vZ (dX kvs k y) k).isSome=true:=by
 rw [bJ,if_pos rfl]; rfl
theorem f6Z {κ:Type} [DecidableEq κ] {kvs:List (κ × V)} {k j:κ} {y:V} (h:(vZ (dX kvs k y) j).isSome=true):j=k\/(vZ kvs j).isSome=true:=by
 rw [bJ] at h
 split at h
 ·exact .inl ‹_›
 ·exact .inr h
theorem g6Z {s t:Nat × List Int} (h:((Sum.inl ((s.1:Nat):Int),tk s.2):NKey)=(Sum.inl ((t.1:Nat):Int),tk t.2)):s=t:=by
 obtain ⟨h1,h2⟩:=Prod.mk.inj h
 have:=Sum.inl.inj h1
 exact Prod.ext (by omega) (v3Q h2)
section
variable {bs:List Box} {rs:List Row} {S0 ss:List (Nat × List Int)} {mt st:List (NKey × V)} {s:Nat × List Int}
theorem Mw.start (h:∀ s∈S0,s.1<=rs.length/\Within bs s.2):Mw bs rs S0 S0 [] []:=
 ⟨(fun _ h=>nomatch h),(fun _ h=>nomatch h),fun s hs=>⟨(h s hs).1,(h s hs).2,fun z v c=>⟨s,hs,c⟩⟩,fun s hs=>.inr hs,fun s h=>nomatch h⟩
theorem Mw.skip (m:Mw bs rs S0 (ss++[s]) mt st) (h:StIn st s):Mw bs rs S0 ss mt st:=by
 have red:∀ t,StIn st t\/t∈ss++[s]->StIn st t\/t∈ss:=fun t ht=>by
  rcases ht with ht | ht
  ·exact .inl ht
  ·rcases List.mem_append.mp ht with ht | ht
   ·exact .inr ht
   ·rw [List.mem_singleton.mp ht]; exact .inl h
 refine ⟨m.mtk,m.stk,fun t ht=>m.ssk t (List.mem_append_left _ ht),fun t ht=>red t (m.ini t ht),fun t ht=>?_⟩
 rcases m.clo t ht with c | ⟨c1,c2⟩
 ·exact .inl c
 ·exact .inr ⟨c1,fun t' ht'=>red t' (c2 t' ht')⟩
theorem Mw.mark {z:Str} {y y':V} (m:Mw bs rs S0 (ss++[s]) mt st) (hz:rs[s.1]?=some (.mark z)):Mw bs rs S0 ss (dX mt (Sum.inr z,tk s.2) y) (dX st (Sum.inl ((s.1:Nat):Int),tk s.2) y'):=by
 obtain ⟨sl,sw,sc⟩:=m.ssk s (List.mem_append_right _ (List.mem_singleton.mpr rfl))
 have red:∀ t,StIn st t\/t∈ss++[s]->StIn (dX st (Sum.inl ((s.1:Nat):Int),tk s.2) y') t\/t∈ss:=fun t ht=>by
  rcases ht with ht | ht
  ·exact .inl (oU ht)
  ·rcases List.mem_append.mp ht with ht | ht
   ·exact .inr ht
   ·rw [List.mem_singleton.mp ht]; exact .inl u0Q
 refine ⟨fun kv hkv=>?_,fun kv hkv=>?_,fun t ht=>m.ssk t (List.mem_append_left _ ht),fun t ht=>red t (m.ini t ht),fun t ht=>?_⟩
 ·rcases q6Q hkv with e | ⟨kv',h',e⟩
  ·exact ⟨z,s.2,e,sw,List.mem_filterMap.mpr ⟨_,List.mem_of_getElem? hz,rfl⟩,sc z s.2 (.inl ⟨hz,rfl⟩)⟩
  ·rw [<-e]; exact m.mtk kv' h'
 ·rcases q6Q hkv with e | ⟨kv',h',e⟩
  ·exact ⟨s.1,s.2,e,sl,sw⟩
  ·rw [<-e]; exact m.stk kv' h'
 ·rcases f6Z ht with e | ht
  ·rw [g6Z e]; exact .inl ⟨z,hz,u0Q⟩
  ·rcases m.clo t ht with ⟨z',c1,c2⟩ | ⟨c1,c2⟩
   ·exact .inl ⟨z',c1,oU c2⟩
   ·exact .inr ⟨c1,fun t' ht'=>red t' (c2 t' ht')⟩
theorem Mw.on {y':V} (O:xW bs rs) (m:Mw bs rs S0 (ss++[s]) mt st) (hz:∀ y,rs[s.1]?≠some (.mark y)):Mw bs rs S0 (ss++beh bs rs s.1 s.2) mt (dX st (Sum.inl ((s.1:Nat):Int),tk s.2) y'):=by
 obtain ⟨sl,sw,sc⟩:=m.ssk s (List.mem_append_right _ (List.mem_singleton.mpr rfl))
 have red:∀ t,StIn st t\/t∈ss++[s]->StIn (dX st (Sum.inl ((s.1:Nat):Int),tk s.2) y') t\/t∈ss++beh bs rs s.1 s.2:=fun t ht=>by
  rcases ht with ht | ht
  ·exact .inl (oU ht)
  ·rcases List.mem_append.mp ht with ht | ht
   ·exact .inr (List.mem_append_left _ ht)
   ·rw [List.mem_singleton.mp ht]; exact .inl u0Q
 refine ⟨m.mtk,fun kv hkv=>?_,fun t ht=>?_,fun t ht=>red t (m.ini t ht),fun t ht=>?_⟩
 ·rcases q6Q hkv with e | ⟨kv',h',e⟩
  ·exact ⟨s.1,s.2,e,sl,sw⟩
  ·rw [<-e]; exact m.stk kv' h'
 ·rcases List.mem_append.mp ht with ht | ht
  ·exact m.ssk t (List.mem_append_left _ ht)
  ·obtain ⟨k',ns'⟩:=t
   obtain ⟨w1,w2,w3⟩:=r3Q sw O.aims ht
   refine ⟨?_,w1,fun z v c=>sc z v (.inr ⟨hz,p6Q.mpr ⟨_,ht,c⟩⟩)⟩
   rcases w3 with e | ⟨z,e⟩
   ·show k'<=_; omega
   ·exact Nat.le_of_lt (List.getElem?_eq_some_iff.mp e).1
 ·rcases f6Z ht with e | ht
  ·rw [g6Z e]; exact .inr ⟨hz,fun t' ht'=>.inr (List.mem_append_right _ ht')⟩
  ·rcases m.clo t ht with c | ⟨c1,c2⟩
   ·exact .inl c
   ·exact .inr ⟨c1,fun t' ht'=>red t' (c2 t' ht')⟩
theorem Mw.all (m:Mw bs rs S0 [] mt st) {z:Str} {v:List Int} {t:Nat × List Int} (h:StIn st t) (c:Cf bs rs t z v):MtIn mt z v:=by
 have cm:∀ {k:Nat} {ns:List Int} {z:Str} {v:List Int},Cm bs rs k ns z v->(∀ y,rs[k]?≠some (.mark y))->StIn st (k,ns)->MtIn mt z v:=by
  intro k ns z v c
  induction c with
  | @here k k' ns ns' z h1 h2 =>
   intro hn hs
   rcases m.clo _ hs with ⟨z',e,_⟩ | ⟨_,c2⟩
   ·exact absurd e (hn z')
   ·rcases c2 _ h1 with h | h
    ·rcases m.clo _ h with ⟨z',e,mm⟩ | ⟨c1,_⟩
     ·rw [h2] at e; cases e; exact mm
     ·exact absurd h2 (c1 _)
    ·cases h
  | @on k k' ns ns' z v h1 h2 _ ih =>
   intro hn hs
   rcases m.clo _ hs with ⟨z',e,_⟩ | ⟨_,c2⟩
   ·exact absurd e (hn z')
   ·rcases c2 _ h1 with h | h
    ·exact ih h2 h
    ·cases h
 rcases c with ⟨c,rfl⟩ | ⟨c1,c2⟩
 ·rcases m.clo _ h with ⟨z',e,mm⟩ | ⟨c1,_⟩
  ·rw [c] at e; cases e; exact mm
  ·exact absurd c (c1 _)
 ·exact cm c2 c1 h
theorem v0Q {α:Type} [DecidableEq α]:∀ {xs ys:List α},xs.Nodup->(∀ x∈xs,x∈ys)->xs.length<=ys.length
 | [],ys,_,_=>Nat.zero_le _
 | x :: r,ys,hn,hs=>by
  have hx:x∈ys:=hs x List.mem_cons_self
  rw [List.nodup_cons] at hn
  have ih:=v0Q (xs:=r) (ys:=ys.erase x) hn.2 fun y hy=>(List.mem_erase_of_ne (fun e=>hn.1 (by rw [<-e]; exact hy))).mpr (hs y (List.mem_cons_of_mem _ hy))
  rw [List.length_erase_of_mem hx] at ih
  have:0 < ys.length:=List.length_pos_of_mem hx
  rw [List.length_cons]
  omega
theorem w0Q {α β:Type} (f:α->List β) (c:Nat) (hf:∀ x,(f x).length=c):∀ xs:List α,(xs.flatMap f).length=xs.length * c
 | []=>by simp
 | x :: r=>by
  rw [List.flatMap_cons,List.length_append,hf,w0Q f c hf r,List.length_cons,Nat.succ_mul,Nat.add_comm]
theorem Mw.mlen (m:Mw bs rs S0 ss mt st) (ok:∀ b∈bs,b.Ok) (nd:(mt.map (·.1)).Nodup):mt.length<=(mks rs).length * vol bs:=by
 have h:=v0Q (ys:=(mks rs).flatMap fun z=>(wZ bs).map fun v=>((Sum.inr z,tk v):NKey)) nd fun x hx=>by
  obtain ⟨kv,hkv,rfl⟩:=List.mem_map.mp hx
  obtain ⟨z,v,e,w,hz,_⟩:=m.mtk kv hkv
  exact List.mem_flatMap.mpr ⟨z,hz,List.mem_map.mpr ⟨v,yK ok w,e.symm⟩⟩
 rw [List.length_map,w0Q _ (vol bs) (fun x=>by rw [List.length_map,lV])] at h
 exact h
theorem Mw.slen (m:Mw bs rs S0 ss mt st) (ok:∀ b∈bs,b.Ok) (nd:(st.map (·.1)).Nodup):st.length<=(rs.length + 1) * vol bs:=by
 have h:=v0Q (ys:=(List.range (rs.length + 1)).flatMap fun k=>(wZ bs).map fun v=>((Sum.inl ((k:Nat):Int),tk v):NKey)) nd fun x hx=>by
  obtain ⟨kv,hkv,rfl⟩:=List.mem_map.mp hx
  obtain ⟨k,ns,e,hk,w⟩:=m.stk kv hkv
  exact List.mem_flatMap.mpr ⟨k,List.mem_range.mpr (by omega),List.mem_map.mpr ⟨ns,yK ok w,e.symm⟩⟩
 rw [List.length_map,w0Q _ (vol bs) (fun x=>by rw [List.length_map,lV]),List.length_range] at h
 exact h
theorem e1Z (ok:∀ b∈bs,b.Ok) (k:Nat) (ns:List Int):(beh bs rs k ns).length<=20:=by
 unfold beh
 cases er:rs[k]? with
 | none=>exact Nat.zero_le _
 | some row =>
  cases row with
  | stop=>exact Nat.zero_le _
  | ask i =>
   cases eb:bs[i]? with
   | none=>simp only [eb]; exact Nat.zero_le _
   | some b =>
    simp only [eb]
    rw [List.length_map,dO]
    have:=(ok b (List.mem_of_getElem? eb)).w
    unfold Box.size
    omega
  | mark z=>exact Nat.le_trans (show _<=1 from by simp only [Row.next]; exact Nat.le_refl 1) (by decide)
  | go t=>exact Nat.le_trans (show _<=1 from by simp only [Row.next]; exact Nat.le_refl 1) (by decide)
  | put i t =>
   show (Option.toList _).length<=20
   generalize Row.next bs k ns 0 (.put i t)=o
   cases o with
   | none=>exact Nat.zero_le _
   | some x=>exact (by decide:1<=20)
  | iff lt a b t =>
   show (Option.toList _).length<=20
   generalize Row.next bs k ns 0 (.iff lt a b t)=o
   cases o with
   | none=>exact Nat.zero_le _
   | some x=>exact (by decide:1<=20)
end
def gK (H:Hp) (r:Addr) (z:Str) (v:List Int):Prop:=∃ pz,H r=some (.tup [.str z,.ref pz])/\H pz=some (.tup (v.map V.int))
theorem gK.same {H H':Hp} {r:Addr} {z:Str} {v:List Int} (h:gK H r z v) (s:iQ H H'):gK H' r z v:=by
 obtain ⟨pz,h1,h2⟩:=h
 exact ⟨pz,s _ _ h1,s _ _ h2⟩
theorem gK.pk {H:Hp} {r:Addr} {z:Str} {v:List Int} (h:gK H r z v):wY H (Sum.inr z,tk v) r:=by
 obtain ⟨pz,h1,h2⟩:=h
 exact ⟨pz,h1,by show H pz=some (.tup ((tk v).map kV)); rw [u1Q]; exact h2⟩
theorem h6Z {H:Hp} {r:Addr} {z:Str} {v:List Int} (h:wY H (Sum.inr z,tk v) r):gK H r z v:=by
 obtain ⟨pz,h1,h2⟩:=h
 rw [show (((Sum.inr z,tk v):NKey).2.map kV)=v.map V.int from u1Q v] at h2
 exact ⟨pz,h1,h2⟩
structure Met (H:Hp) (rl:List Addr) (T:Str->List Int->Prop):Prop where
 l:rl.length < 64
 to:∀ r∈rl,∃ z v,gK H r z v/\T z v
 of:∀ z v,T z v->∃ r∈rl,gK H r z v
theorem Met.same {H H':Hp} {rl:List Addr} {T:Str->List Int->Prop} (h:Met H rl T) (s:iQ H H'):Met H' rl T:=
 ⟨h.l,fun r hr=>let ⟨z,v,p,t⟩:=h.to r hr; ⟨z,v,p.same s,t⟩,fun z v t=>let ⟨r,hr,p⟩:=h.of z v t; ⟨r,hr,p.same s⟩⟩
def spMarksMet:Sp:=fun vs H Q _=>∃ (pp pb pr pl:Addr) (us ur ul:List V) (bs:List Box) (rs:List Row) (S0:List (Nat × List Int)),vs=[.ref pp,.ref pl]/\bX H pp pb pr us ur bs rs/\xW bs rs/\(mks rs).length * vol bs < 64/\H pl=some (.lst ul)/\aW H ul S0/\S0.length<=400/\(∀ s∈S0,s.1<=rs.length/\Within bs s.2) /\
 ∀ (l:Addr) (rl:List Addr) (H':Hp),H l=none->iQ H H'->H' l=some (.lst (rl.map V.ref))->Met H' rl (fun z v=>∃ s∈S0,Cf bs rs s z v)->Q (.ref l) H'
theorem aW.tups {H H':Hp} {us:List V} {ss:List (Nat × List Int)} (h:aW H us ss) (t:∀ q xs,H q=some (.tup xs)->H' q=some (.tup xs)):aW H' us ss:=h.mono fun _ _ ⟨q,pz,e,h⟩=>⟨q,pz,e,t _ _ h.1,t _ _ h.2⟩
theorem aW.app {H:Hp} {us us':List V} {ss ss':List (Nat × List Int)} (h:aW H us ss) (h':aW H us' ss'):aW H (us++us') (ss++ss'):=by
 have l:=h.1
 refine ⟨by rw [List.length_append,List.length_append,l,h'.1],fun i x y e1 e2=>?_⟩
 by_cases hi:i < us.length
 ·rw [List.getElem?_append_left hi] at e1
  rw [List.getElem?_append_left (by omega)] at e2
  exact h.2 i x y e1 e2
 ·rw [List.getElem?_append_right (by omega)] at e1 e2
  rw [<-l] at e2
  exact h'.2 _ x y e1 e2
theorem d3Z {rs:List Row} {k:Nat} (h:cJ rs k = "mark"):∃ z,rs[k]?=some (.mark z):=by
 unfold cJ at h
 cases e:rs[k]? with
 | none=>rw [e] at h; exact absurd h (by decide +kernel:¬ (("stop":Str) = "mark"))
 | some r =>
  rw [e] at h
  cases en:r.nm with
  | some z=>exact ⟨z,by rw [Row.nm_some en]⟩
  | none=>exact absurd h (Row.nm_none en)
theorem e3Z {rs:List Row} {k:Nat} {z:Str} (h:rs[k]?=some (.mark z)):cJ rs k = "mark":=by unfold cJ; rw [h]; rfl
section
theorem fY:yQ ["program","standings","met","stood","waiting","standing"] ["program","standings"] (gQ sW):=(by wtm_at "f")
theorem i8Q (h:Has K mg "marks_met" sW ["program","standings"]) (B:Blt mg) (cK:Cal P w K mg base 2 "kind_at" ["program","standing"] spKindAt) (cM:Cal P w K mg base 1 "mark_at" ["program","standing"] spMarkAt) (cB:Cal P w K mg base 19 "standings_behind" ["program","standing"] spBehind):Cal P w K mg base 20 "marks_met" ["program","standings"] spMarksMet:=by
 refine h.cal fY (fun vs H Q E h=>?_) (fun f cdv A outer s H vs Q E hr h=>?_)
 ·obtain ⟨_,_,_,_,_,_,_,_,_,_,rfl,_⟩:=h
  rfl
 obtain ⟨pp,pb,pr,pl,us,ur,ul,bs,rs,S0,rfl,G,O,h64,hpl,D0,l0,ok0,q⟩:=h
 have hu3:(A.deeper _).units + 2 < cLine:=Nat.lt_of_le_of_lt (Nat.add_le_add_left (by decide:2<=64) _) hr.units
 have hr19:sZ 19 _:=hr
 have hr2:sZ 2 _:=hr.mono (by decide)
 have hr1:sZ 1 _:=hr.mono (by decide)
 refine ⟨_,(bQ (qQ (i:=2) fY.nd rfl (Or.inl rfl) k0Q)
  (bQ (qQ (i:=3) fY.nd rfl (Or.inl rfl) k0Q)
  (bQ (qQ (i:=4) fY.nd rfl (Or.inl rfl) (tV mK rfl B.list n0Q (aQ (pv 1) eQ)))
  (bQ (a0Q PassesOwn.never (rQ i0Z (bZ dZ rfl B.len pX (aQ (pv 4) eQ)) cQ (nQ _))
   (bQ (qQ (i:=5) fY.nd rfl (Or.inl rfl) (x0X PySem.F.plainAttrs_list PySem.F.slot_list_pop PySem.F.type_list_pop y0X (pv 4)))
   (bQ (cZ (rQ (l1X hu3) (pv 5) (pv 3) rfl) (fQ f7Q) sQ)
   (bQ (g2Q hu3 (pv 3) (pv 5) jW rfl)
   (fQ (cZ (rQ aZ (wQ cK hr2 rfl (aQ (pv 0) (aQ (pv 5) eQ))) tQ (nQ _))
    (fQ (g2Q hu3 (pv 2) (wQ cM hr1 rfl (aQ (pv 0) (aQ (pv 5) eQ))) jW rfl))
    (fQ (lX (iV PySem.F.plainAttrs_list PySem.F.slot_list_extend PySem.F.type_list_extend b5Q (pv 4) (aQ (wQ cB hr19 rfl (aQ (pv 0) (aQ (pv 5) eQ))) eQ))))))))))
  (fQ (oQ (bZ (i6Q rfl hr.units) rfl B.sorted q2Z (aQ (pv 2) eQ)))))))),?_⟩
 intro dm hdm hsm
 have s1:=iQ.new hdm (PkO P w dm [])
 have N1:rX P w (upd H dm (PkO P w dm [])) dm []:=rX.new hsm
 have e1:upd H dm (PkO P w dm []) dm=some (PkO P w dm []):=dQ
 show fX 2 (V.ref dm) _ (upd H dm (PkO P w dm [])) _
 generalize upd H dm (PkO P w dm [])=H1 at *
 intro ds hds hss
 have s2:=iQ.new hds (PkO P w ds [])
 have N2:rX P w (upd H1 ds (PkO P w ds [])) ds []:=rX.new hss
 have e2:upd H1 ds (PkO P w ds []) ds=some (PkO P w ds []):=dQ
 have ne1:dm≠ds:=jQ e1 hds
 show fX 3 (V.ref ds) _ (upd H1 ds (PkO P w ds [])) _
 generalize upd H1 ds (PkO P w ds [])=H2 at *
 refine ⟨_,rfl,pl,_,rfl,.inl (SqL.of (s2 _ _ (s1 _ _ hpl))),fun pw hpw=>?_⟩
 have s3:=iQ.new hpw (.lst ul)
 have e3:upd H2 pw (.lst ul) pw=some (.lst ul):=dQ
 have ne2:dm≠pw:=jQ (s2 _ _ e1) hpw
 have ne3:ds≠pw:=jQ e2 hpw
 show fX 4 (V.ref pw) _ (upd H2 pw (.lst ul)) _
 generalize upd H2 pw (.lst ul)=H3 at *
 have s03:=(s1.trans s2).trans s3
 have Hds:H ds=none:=iQ.free s1 hds
 have Hpw:H pw=none:=iQ.free (s1.trans s2) hpw
 have vol400:=O.vol
 have l60:=O.l60
 refine ⟨fun m σ H'=>∃ (c5:Option V) (mt st:List (NKey × V)) (uw:List V) (ss:List (Nat × List Int)),σ=[some (.ref pp),some (.ref pl),some (.ref dm),some (.ref ds),some (.ref pw),c5]/\iQ H H'/\rX P w H' dm mt/\rX P w H' ds st/\H' pw=some (.lst uw)/\aW H' uw ss/\Mw bs rs S0 ss mt st/\ss.length<=400 + 20 * st.length/\m=((rs.length + 1) * vol bs - st.length) * 21 + ss.length,
  ⟨_,none,[],[],ul,S0,rfl,s03,(N1.same s2).same s3,N2.same s3,e3,D0.same s03,Mw.start ok0,by rw [List.length_nil]; omega,rfl⟩,?_⟩
 rintro m σ H4 ⟨c5,mt,st,uw,ss,rfl,s4,Nm,Ns,hw,D4,M4,l4,rfl⟩
 have kS:∀ {H':Hp} {st:List (NKey × V)},rX P w H' ds st->(st.map (·.1)).Nodup:=fun N=>let ⟨_,_,_,_,h,_⟩:=N; h
 have ls:=M4.slen G.ok (kS Ns)
 have lm:=M4.mlen G.ok (let ⟨_,_,_,_,h,_⟩:=Nm; h)
 have hN:(rs.length + 1) * vol bs<=61 * 400:=Nat.mul_le_mul (by omega) vol400
 have tupw:∀ {H':Hp} {b:Addr} {xs:List V} {us:List V},H' pw=some (.lst us)->H' b=some (.tup xs)->b≠pw:=fun h1 h2 z=>by rw [z,h1] at h2; cases h2
 have tupD:∀ {H':Hp} {d b:Addr} {xs:List V} {kvs:List (NKey × V)},rX P w H' d kvs->H' b=some (.tup xs)->b≠d:=fun N h z=>by
  obtain ⟨φ,e⟩:=N.there
  rw [z,e] at h; cases h
 refine ⟨_,rfl,pw,_,rfl,.inl (SqL.of hw),_,_,rfl,rfl,_,rfl,?_⟩
 have hl:=D4.1
 by_cases h0:uw=[]
 ·refine nJ (decide_eq_false (by rw [h0]; decide)) ?_
  have hs0:ss=[]:=List.length_eq_zero_iff.mp (by rw [<-hl,h0]; rfl)
  subst hs0
  refine ⟨_,rfl,dm,mt,rfl,Nm,by omega,fun kv hkv=>?_,fun p rl hp hlen hto hof=>?_⟩
  ·obtain ⟨z,v,e,_⟩:=M4.mtk kv hkv
   exact ⟨⟨z,by rw [e]⟩,v,by rw [e]; rfl⟩
  ·have sp:=iQ.new hp (.lst (rl.map V.ref))
   refine q p rl _ (iQ.free s4 hp) (s4.trans sp) dQ ⟨by omega,fun r hr=>?_,fun z v ⟨s,hs,c⟩=>?_⟩
   ·obtain ⟨kv,hkv,hk⟩:=hto r hr
    obtain ⟨z,v,e,_,_,c⟩:=M4.mtk kv hkv
    rw [e] at hk
    exact ⟨z,v,(h6Z hk).same sp,c⟩
   ·have hin:MtIn mt z v:=by
     rcases M4.ini s hs with h | h
     ·exact M4.all h c
     ·cases h
    have hmem:∃ kv∈mt,kv.1=(Sum.inr z,tk v):=by
     unfold MtIn at hin
     rw [<-xJ] at hin
     obtain ⟨kv,hkv,e⟩:=List.any_eq_true.mp hin
     exact ⟨kv,hkv,of_decide_eq_true e⟩
    obtain ⟨kv,hkv,e⟩:=hmem
    obtain ⟨r,hr,hk⟩:=hof kv hkv
    rw [e] at hk
    exact ⟨r,hr,(h6Z hk).same sp⟩
 ·obtain ⟨uw',u,rfl⟩:∃ uw' u,uw=uw'++[u]:=⟨_,_,(List.dropLast_concat_getLast h0).symm⟩
  refine rV (decide_eq_true (by rw [List.length_append]; show (0:Int) < _; simp)) ?_
  obtain ⟨ss',⟨k,ns⟩,rfl,D5,qs,pz,rfl,Ss⟩:=D4.unsnoc
  rw [List.length_append,List.length_singleton] at l4
  have okS:=M4.ssk (k,ns) (List.mem_append_right _ (List.mem_singleton.mpr rfl))
  refine ⟨fun σ' H'=>∃ m',m' < ((rs.length + 1) * vol bs - st.length) * 21 + (ss'++[(k,ns)]).length/\∃ (c5:Option V) (mt st:List (NKey × V)) (uw:List V) (ss:List (Nat × List Int)),σ'=[some (.ref pp),some (.ref pl),some (.ref dm),some (.ref ds),some (.ref pw),c5]/\iQ H H'/\rX P w H' dm mt/\rX P w H' ds st/\H' pw=some (.lst uw)/\aW H' uw ss/\Mw bs rs S0 ss mt st/\ss.length<=400 + 20 * st.length/\m'=((rs.length + 1) * vol bs - st.length) * 21 + ss.length,fun σ' H' h=>h,?_⟩
  refine ⟨_,rfl,.inl ⟨rfl,_,SqL.of hw⟩,pw,_,_,rfl,rfl,hw,by rw [List.length_append,List.length_singleton]; exact List.getElem?_concat_length,?_⟩
  rw [List.dropLast_concat]
  have b5:But pw H4 (upd H4 pw (.lst uw')):=But.upd _
  have hw5:upd H4 pw (.lst uw') pw=some (.lst uw'):=dQ
  have t5:∀ q xs,H4 q=some (.tup xs)->upd H4 pw (.lst uw') q=some (.tup xs):=fun q xs h=>b5 _ _ (tupw hw h) h
  have s5:iQ H (upd H4 pw (.lst uw')):=fun c o e=>b5 c o (jQ e Hpw) (s4 c o e)
  have Nm5:rX P w (upd H4 pw (.lst uw')) dm mt:=Nm.keep (fun o e=>b5 _ _ ne2 e) t5
  have Ns5:rX P w (upd H4 pw (.lst uw')) ds st:=Ns.keep (fun o e=>b5 _ _ ne3 e) t5
  have D5':aW (upd H4 pw (.lst uw')) uw' ss':=aW.tups D5 t5
  have S5:fK (upd H4 pw (.lst uw')) qs k pz ns:=⟨t5 _ _ Ss.1,t5 _ _ Ss.2⟩
  show fX 5 (V.ref qs) _ (upd H4 pw (.lst uw')) _
  generalize upd H4 pw (.lst uw')=H5 at *
  have kP:∀ {H':Hp},fK H' qs k pz ns->wY H' (Sum.inl ((k:Nat):Int),tk ns) qs:=fun S=>⟨pz,S.1,by show _=some (HO.tup ((tk ns).map kV)); rw [u1Q]; exact S.2⟩
  refine ⟨_,rfl,_,rfl,qs,ds,_,st,rfl,rfl,kP S5,Ns5.rd,?_⟩
  have wkS:∀ {st':List (NKey × V)} {H':Hp} {ss:List (Nat × List Int)} {mt:List (NKey × V)},rX P w H' ds st'->Mw bs rs S0 ss mt st'->st'.length<=(rs.length + 1) * vol bs:=fun N M=>M.slen G.ok (kS N)
  rcases Bool.eq_false_or_eq_true (vZ st (Sum.inl ((k:Nat):Int),tk ns)).isSome with hin | hin
  ·refine ⟨_,rfl,rV hin ?_⟩
   exact ⟨_,by rw [List.length_append,List.length_singleton]; exact Nat.lt_succ_self _,_,mt,st,uw',ss',rfl,s5,Nm5,Ns5,hw5,D5',M4.skip hin,by omega,rfl⟩
  ·refine ⟨_,rfl,nJ hin ?_⟩
   have hnone:vZ st (Sum.inl ((k:Nat):Int),tk ns)=none:=Option.not_isSome_iff_eq_none.mp (by rw [hin]; exact Bool.false_ne_true)
   refine ⟨_,rfl,_,rfl,ds,qs,_,st,rfl,rfl,kP S5,Ns5,by rw [sizeLine_eq]; omega,fun H6 e6 Ns6=>?_⟩
   have b6:But ds H5 H6:=fun c o n e=>by rw [e6 c n]; exact e
   have t6:∀ q xs,H5 q=some (.tup xs)->H6 q=some (.tup xs):=fun q xs h=>b6 _ _ (tupD Ns5 h) h
   have s6:iQ H H6:=fun c o e=>b6 c o (jQ e Hds) (s5 c o e)
   have Nm6:rX P w H6 dm mt:=Nm5.keep (fun o e=>b6 _ _ ne1 e) t6
   have hw6:H6 pw=some (.lst uw'):=b6 _ _ ne3.symm hw5
   have D6:aW H6 uw' ss':=aW.tups D5' t6
   have S6:fK H6 qs k pz ns:=⟨t6 _ _ S5.1,t6 _ _ S5.2⟩
   have hlen6:(dX st (Sum.inl ((k:Nat):Int),tk ns) (.bl true)).length=st.length + 1:=by rw [tY _ hnone,List.length_append,List.length_singleton]
   refine ⟨_,rfl,_,rfl,pp,pb,pr,qs,pz,us,ur,bs,rs,k,ns,rfl,G.same s6,S6,okS.1,rfl,_,rfl,?_⟩
   by_cases hk:cJ rs k = "mark"
   ·obtain ⟨z,hz⟩:=d3Z hk
    refine rV (decide_eq_true (by rw [hk])) ?_
    refine ⟨_,rfl,_,rfl,_,rfl,pp,pb,pr,qs,pz,us,ur,bs,rs,k,ns,z,rfl,G.same s6,S6,hz,fun pq hpq=>?_⟩
    have sq:=iQ.new hpq (.tup [.str z,.ref pz])
    have Pq:gK (upd H6 pq (.tup [.str z,.ref pz])) pq z ns:=⟨pz,dQ,sq _ _ S6.2⟩
    have M6:=M4.mark (y:=.bl true) (y':=.bl true) hz
    have ls6:=wkS Ns6 M6
    generalize upd H6 pq (.tup [.str z,.ref pz])=H7 at *
    refine ⟨dm,pq,_,mt,rfl,rfl,Pq.pk,Nm6.same sq,by rw [sizeLine_eq]; omega,fun H8 e8 Nm8=>?_⟩
    have b8:But dm H7 H8:=fun c o n e=>by rw [e8 c n]; exact e
    have t8:∀ q xs,H7 q=some (.tup xs)->H8 q=some (.tup xs):=fun q xs h=>b8 _ _ (tupD (Nm6.same sq) h) h
    have s8:iQ H H8:=fun c o e=>b8 c o (jQ e hdm) (sq _ _ (s6 c o e))
    refine ⟨_,?_,_,_,_,uw',ss',rfl,s8,Nm8,(Ns6.same sq).keep (fun o e=>b8 _ _ ne1.symm e) t8,b8 _ _ ne2.symm (sq _ _ hw6),aW.tups (D6.same sq) t8,M6,by omega,rfl⟩
    rw [List.length_append,List.length_singleton]
    rw [hlen6] at ls6 ⊢
    omega
   ·have hz:∀ y,rs[k]?≠some (.mark y):=fun y e=>hk (e3Z e)
    refine nJ (decide_eq_false (fun z=>hk (V.str.inj z))) ?_
    have M6:=M4.on (y':=.bl true) O hz
    have ls6:=wkS Ns6 M6
    have lb:=e1Z (rs:=rs) G.ok k ns
    refine ⟨_,rfl,.inl ⟨rfl,_,SqL.of hw6⟩,_,rfl,_,rfl,pp,pb,pr,qs,pz,us,ur,bs,rs,k,ns,rfl,G.same s6,O,S6,okS.1,okS.2.1,fun lx ux H7 hlx s7 e7 D7=>?_⟩
    have lx1:=D7.1
    have l6:=D6.1
    refine ⟨pw,lx,uw',ux,rfl,rfl,s7 _ _ hw6,e7,by rw [sizeLine_eq]; omega,?_⟩
    have b8:But pw H7 (upd H7 pw (.lst (uw'++ux))):=But.upd _
    have hw8:upd H7 pw (.lst (uw'++ux)) pw=some (.lst (uw'++ux)):=dQ
    have t8:∀ q xs,H7 q=some (.tup xs)->upd H7 pw (.lst (uw'++ux)) q=some (.tup xs):=fun q xs h=>b8 _ _ (tupw (s7 _ _ hw6) h) h
    have s8:iQ H (upd H7 pw (.lst (uw'++ux))):=fun c o e=>b8 c o (jQ e Hpw) (s7 _ _ (s6 c o e))
    refine ⟨_,?_,_,mt,_,_,_,rfl,s8,(Nm6.same s7).keep (fun o e=>b8 _ _ ne2 e) t8,(Ns6.same s7).keep (fun o e=>b8 _ _ ne3 e) t8,hw8,aW.tups ((D6.same s7).app D7) t8,M6,?_,rfl⟩
    ·rw [List.length_append,List.length_append,List.length_singleton]
     rw [hlen6] at ls6 ⊢
     show _ + (ss'.length + (beh bs rs k ns).length) < _
     omega
    ·rw [List.length_append,hlen6]
     show ss'.length + (beh bs rs k ns).length<=_
     omega
end
theorem i6Z {K:W.Frag} {H H':Hp} {a:Addr} {xs:List V} (h:SqL K H a xs) (s:iQ H H'):SqL K H' a xs:=by
 rcases h with h | h
 ·rcases h with h | ⟨o,h⟩
  ·exact .inl (.inl (s _ _ h))
  ·exact .inl (.inr ⟨o,s _ _ h⟩)
 ·exact .inr h
def SmD (ds:List Int):Prop:=∀ x∈ds,0<=x/\x < 10007
theorem SmD.snoc {ds:List Int} {x:Int} (h:SmD ds) (h0:0<=x) (h1:x < 10007):SmD (ds++[x]):=fun y hy=>by
 rcases List.mem_append.mp hy with h2 | h2
 ·exact h y h2
 ·rw [List.mem_singleton.mp h2]; exact ⟨h0,h1⟩
theorem pZ {a n:Int} (h:0 < n):0<=a % n/\a % n < n:=⟨Int.emod_nonneg _ (by omega),Int.emod_lt_of_pos _ h⟩
theorem d_at {ds:List Int} (h:SmD ds) {i:Nat} (hi:i < ds.length):∃ x:Int,atI (ds.map V.int) ((i:Nat):Int)=some (.int x)/\ds[i]?=some x/\0<=x/\x < 10007:=
 ⟨ds[i],oX (by rw [List.getElem?_map,List.getElem?_eq_getElem hi]; rfl),List.getElem?_eq_getElem hi,h _ (List.getElem_mem hi)⟩
def f1Z (K:W.Frag) (M:Nat):Sp:=fun vs H Q _=>∃ (a:Addr) (ns:List Int),vs=[.ref a,.int (M:Nat)]/\M<=800/\SqL K H a (ns.map V.int)/\ns.length<=63 /\
 ∀ (p:Addr) (ds:List Int) (H':Hp),H p=none->iQ H H'->H' p=some (.lst (ds.map V.int))->M<=ds.length->SmD ds->Q (.ref p) H'
section
theorem zX:yQ ["script","many","drawn","base","k","cell","number","one"] ["script","many"] (gQ g1Q):=(by wtm_at "f")
theorem j6Z {M:Nat} (h:Has K mg "_law_draws" g1Q ["script","many"]) (B:Blt mg):Cal P w K mg base 1 "_law_draws" ["script","many"] (f1Z K M):=by
 refine h.cal zX (fun vs H Q E h=>?_) (fun f cdv A outer s H vs Q E hr h=>?_)
 ·obtain ⟨a,ns,rfl,_⟩:=h
  rfl
 obtain ⟨a,ns,rfl,hM,hS,h63,q⟩:=h
 refine ⟨_,(bQ (qQ (i:=2) zX.nd rfl (Or.inl rfl) (jX eQ))
  (bQ (qQ (i:=3) zX.nd rfl (Or.inl rfl) cQ)
  (bQ (uZ PassesOwn.never rfl (e6Q rfl B.enumerate (aQ (iU n0Z (pv 0) d2Q (yU cQ)) eQ)) (jK rfl (jZ (uQ (i:=4) zX.nd rfl (Or.inl rfl)) (jZ (uQ (i:=5) zX.nd rfl (Or.inl rfl)) dJ))) (bQ (qQ (i:=6) zX.nd rfl (Or.inl rfl) (bZ d4Z rfl B.abs r1X (aQ (pv 5) eQ)))
  (bQ (qQ (i:=3) zX.nd rfl (Or.inl rfl) (lQ gZ (lQ hZ (lQ aJ (pv 3) cQ) (pv 6)) cQ))
  (fQ (cZ (rQ b4Z (pv 6) (lQ q0X cQ cQ) (nQ _)) (fQ (a0Q PassesOwn.never (PW.pt (x5Q (rQ i0Z (pv 6) cQ (nQ _)) (a2Q (rQ q4Q (bZ dZ rfl B.len pX (aQ (pv 2) eQ)) (pv 1) (nQ _))))) (bQ (lX (iV PySem.F.plainAttrs_list PySem.F.slot_list_append PySem.F.type_list_append iX (pv 2) (aQ (lQ gZ (pv 6) cQ) eQ)))
  (fQ (qQ (i:=6) zX.nd rfl (Or.inl rfl) (lQ nX (pv 6) cQ)))))) (bQ (qQ (i:=7) zX.nd rfl (Or.inl rfl) (lQ gZ (lQ aJ (lQ hZ (lQ hZ (lQ gZ (pv 6) cQ) (pv 4)) cQ) cQ) cQ))
  (bQ (qQ (i:=7) zX.nd rfl (Or.inl rfl) (lQ gZ (lQ aJ (pv 7) (pv 7)) cQ))
  (bQ (lX (iV PySem.F.plainAttrs_list PySem.F.slot_list_append PySem.F.type_list_append iX (pv 2) (aQ (lQ gZ (lQ nX (pv 7) cQ) cQ) eQ)))
  (bQ (qQ (i:=7) zX.nd rfl (Or.inl rfl) (lQ gZ (lQ hZ (lQ hZ (lQ aJ (pv 7) cQ) (lQ aJ cQ (pv 4))) cQ) cQ))
  (bQ (qQ (i:=7) zX.nd rfl (Or.inl rfl) (lQ gZ (lQ aJ (pv 7) (pv 7)) cQ))
  (fQ (lX (iV PySem.F.plainAttrs_list PySem.F.slot_list_append PySem.F.type_list_append iX (pv 2) (aQ (lQ gZ (lQ nX (pv 7) cQ) cQ) eQ))))))))))))))
  (bQ (uZ PassesOwn.never rfl (qJ rfl B.range (aQ (lQ eJ (pv 1) (bZ dZ rfl B.len pX (aQ (pv 2) eQ))) eQ)) (uQ (i:=4) zX.nd rfl (Or.inl rfl)) (bQ (qQ (i:=7) zX.nd rfl (Or.inl rfl) (lQ gZ (lQ hZ (lQ hZ (pv 3) (lQ aJ cQ (pv 4))) cQ) cQ))
  (bQ (qQ (i:=7) zX.nd rfl (Or.inl rfl) (lQ gZ (lQ aJ (pv 7) (pv 7)) cQ))
  (bQ (qQ (i:=7) zX.nd rfl (Or.inl rfl) (lQ gZ (lQ hZ (lQ aJ (pv 7) cQ) (pv 4)) cQ))
  (fQ (lX (iV PySem.F.plainAttrs_list PySem.F.slot_list_append PySem.F.type_list_append iX (pv 2) (aQ (lQ gZ (lQ nX (lQ gZ (lQ aJ (pv 7) (pv 7)) cQ) cQ) cQ) eQ))))))))
  (fQ (oQ (pv 2))))))),?_⟩
 refine ⟨(by show 0<=sizeLine; decide),fun pd hd=>?_⟩
 have s1:=iQ.new hd (.lst [])
 have h1:upd H pd (.lst []) pd=some (.lst (([]:List Int).map V.int)):=dQ
 have hS1:SqL K (upd H pd (.lst [])) a (ns.map V.int):=i6Z hS s1
 generalize upd H pd (.lst [])=H1 at *
 wtm_at "ss"
 refine ⟨a,_,rfl,hS1,fun ps hps=>?_⟩
 have e1:HT.sIx (ns.map V.int).length 0 (none:Option Int)=0:=rfl
 have e2:HT.sIx (ns.map V.int).length (ns.map V.int).length (some 63)=(ns.map V.int).length:=by
  rw [List.length_map]
  show (if (63:Int) < 0 then ((63:Int) + (ns.length:Int)).toNat else Nat.min (63:Int).toNat ns.length)=ns.length
  rw [if_neg (by decide)]
  exact Nat.min_eq_right h63
 have e:pV (ns.map V.int) none (some 63)=ns.map V.int:=by
  unfold pV
  rw [e1,e2,List.drop_zero]
  exact List.take_of_length_le (by omega)
 rw [e]
 have s2:=iQ.new hps (.lst (ns.map V.int))
 have h2:upd H1 ps (.lst (ns.map V.int)) ps=some (.lst (ns.map V.int)):=dQ
 have hd2:=s2 _ _ h1
 have npd:ps≠pd:=fun z=>by rw [z,h1] at hps; cases hps
 generalize upd H1 ps (.lst (ns.map V.int))=H2 at *
 have s02:=s1.trans s2
 refine ⟨ps,rfl,⟨_,h2⟩,e3Q (a:=ps) (xs:=ns.map V.int) (fun i σ H'=>∃ (ds:List Int) (bse:Int) (c4 c5 c6 c7:Option V),σ=[some (.ref a),some (.int (M:Nat)),some (.ref pd),some (.int bse),c4,c5,c6,c7]/\0<=bse/\bse < 2147483629/\SmD ds/\ds.length<=M + 2 * i/\H' pd=some (.lst (ds.map V.int))/\H' ps=some (.lst (ns.map V.int))/\iQ H H')
  ⟨[],7,none,none,none,none,rfl,by decide,by decide,(fun x hx=>nomatch hx),by simp,hd2,h2,s02⟩ (fun i σ H' _ ⟨_,_,_,_,_,_,_,_,_,_,_,_,e,_⟩=>e) ?_ ?_⟩
 ·rintro i x σ H3 T hi ⟨ds,bse,c4,c5,c6,c7,rfl,z0,z1,sd,dl,h3,h3s,s3⟩ hT
  rw [List.getElem?_map] at hi
  obtain ⟨cell,hc,rfl⟩:=Option.map_eq_some_iff.mp hi
  have il:i < 63:=by have:=(List.getElem?_eq_some_iff.mp hc).1; omega
  have sT:=iQ.new hT (.tup [.int (i:Nat),.int cell])
  have h4:=sT _ _ h3
  have h4s:=sT _ _ h3s
  have s4:=s3.trans sT
  refine ⟨T,_,rfl,SqT.of dQ,rfl,_,_,rfl,_,_,rfl,rfl,?_⟩
  generalize upd H3 T (.tup [.int (i:Nat),.int cell])=H4 at *
  refine ⟨_,rfl,_,rfl,?_⟩
  obtain ⟨nb,enb⟩:∃ nb:Int,nb=(if cell < 0 then -cell else cell):=⟨_,rfl⟩
  have nb0:0<=nb:=by rw [enb]; split <;> omega
  rw [<-enb]
  refine ⟨_,rfl,_,_,rfl,rfl,cm z0 (by omega),_,rfl,_,_,rfl,rfl,_,_,rfl,rfl,(by decide:(0:Int) < 2147483629),?_⟩
  have bb:=pZ (a:=bse * 31 + nb) (n:=2147483629) (by decide)
  show fX 3 (V.int ((bse * 31 + nb) % 2147483629)) _ _ _
  obtain ⟨b2,eb2⟩:∃ b2:Int,b2=(bse * 31 + nb) % 2147483629:=⟨_,rfl⟩
  rw [<-eb2] at bb ⊢
  refine ⟨_,rfl,_,_,rfl,rfl,z9Z,_,_,rfl,rfl,_,rfl,sX (fun _=>?_) (fun _=>?_)⟩
  ·refine ⟨fun m σ H'=>∃ (ds':List Int) (n':Int),σ=[some (.ref a),some (.int (M:Nat)),some (.ref pd),some (.int b2),some (.int (i:Nat)),some (.int cell),some (.int n'),c7]/\0<=n'/\m=n'.toNat/\SmD ds'/\ds'.length<=M + 2 * i/\H' pd=some (.lst (ds'.map V.int))/\H' ps=some (.lst (ns.map V.int))/\iQ H H',⟨_,ds,nb,rfl,nb0,rfl,sd,dl,h4,h4s,s4⟩,?_⟩
   rintro m σ H5 ⟨ds',n',rfl,n0,rfl,sd',dl',h5,h5s,s5⟩
   have out:∃ (ds:List Int) (bse:Int) (u4 u5 u6 u7:Option V),([some (.ref a),some (.int (M:Nat)),some (.ref pd),some (.int b2),some (.int (i:Nat)),some (.int cell),some (.int n'),c7]:St)=[some (.ref a),some (.int (M:Nat)),some (.ref pd),some (.int bse),u4,u5,u6,u7]/\0<=bse/\bse < 2147483629/\SmD ds/\ds.length<=M + 2 * (i + 1)/\H5 pd=some (.lst (ds.map V.int))/\H5 ps=some (.lst (ns.map V.int))/\iQ H H5:=⟨ds',b2,_,_,_,c7,rfl,bb.1,bb.2,sd',by omega,h5,h5s,s5⟩
   refine ⟨_,rfl,_,_,rfl,rfl,_,rfl,sX (fun hp=>?_) (fun _=>kY out)⟩
   refine ⟨_,rfl,pd,_,rfl,.inl (SqL.of h5),_,rfl,_,_,rfl,rfl,_,rfl,sX (fun hl=>?_) (fun _=>out)⟩
   rw [List.length_map] at hl
   refine ⟨fun σ' H'=>∃ (ds':List Int),σ'=[some (.ref a),some (.int (M:Nat)),some (.ref pd),some (.int b2),some (.int (i:Nat)),some (.int cell),some (.int (n' / 10007)),c7]/\SmD ds'/\ds'.length<=M + 2 * i/\H' pd=some (.lst (ds'.map V.int))/\H' ps=some (.lst (ns.map V.int))/\iQ H H',fun σ' H' ⟨d2,e,r1,r2,r3,r4,r5⟩=>⟨_,?_,d2,n' / 10007,e,by omega,rfl,r1,r2,r3,r4,r5⟩,?_⟩
   ·omega
   ·have mm:=pZ (a:=n') (n:=10007) (by decide)
    refine ⟨_,rfl,.inl ⟨rfl,_,SqL.of h5⟩,_,rfl,_,_,rfl,rfl,(by decide:(0:Int) < 10007),pd,_,_,rfl,rfl,h5,eZ (by rw [List.length_map]; omega),?_⟩
    refine ⟨_,rfl,_,_,rfl,rfl,⟨by decide,by decide⟩,?_⟩
    exact ⟨ds'++[n' % 10007],rfl,sd'.snoc mm.1 mm.2,by rw [List.length_append]; show ds'.length + 1<=_; omega,by rw [dQ,List.map_append]; rfl,by rw [kQ npd]; exact h5s,fun c o e=>by rw [kQ (jQ e hd)]; exact s5 _ _ e⟩
  ·have o1:=pZ (a:=(nb % 2147483647 + (i:Int) + 1) * 48271) (n:=2147483647) (by decide)
   refine ⟨_,rfl,_,_,rfl,rfl,(by decide:(0:Int) < 2147483647),_,rfl,_,_,rfl,rfl,_,_,rfl,rfl,_,_,rfl,rfl,cmr (by decide) (by decide),_,_,rfl,rfl,(by decide:(0:Int) < 2147483647),?_⟩
   show fX 7 (V.int ((nb % 2147483647 + (i:Int) + 1) * 48271 % 2147483647)) _ _ _
   generalize (nb % 2147483647 + (i:Int) + 1) * 48271 % 2147483647=o at *
   have o2:=pZ (a:=o * o) (n:=2147483629) (by decide)
   refine ⟨_,rfl,_,rfl,_,_,rfl,rfl,cm o1.1 (by omega),_,_,rfl,rfl,(by decide:(0:Int) < 2147483629),?_⟩
   show fX 7 (V.int (o * o % 2147483629)) _ _ _
   generalize o * o % 2147483629=p at *
   have m1:=pZ (a:=p / 8) (n:=10007) (by decide)
   refine ⟨_,rfl,.inl ⟨rfl,_,SqL.of h4⟩,_,rfl,_,_,rfl,rfl,⟨by decide,by decide⟩,_,_,rfl,rfl,(by decide:(0:Int) < 10007),pd,_,_,rfl,rfl,h4,eZ (by rw [List.length_map]; omega),?_⟩
   have h5:upd H4 pd (.lst (ds.map V.int++[.int (p / 8 % 10007)])) pd=some (.lst ((ds++[p / 8 % 10007]).map V.int)):=by rw [dQ,List.map_append]; rfl
   have h5s:upd H4 pd (.lst (ds.map V.int++[.int (p / 8 % 10007)])) ps=some (.lst (ns.map V.int)):=by rw [kQ npd]; exact h4s
   have s5:iQ H (upd H4 pd (.lst (ds.map V.int++[.int (p / 8 % 10007)]))):=fun c o e=>by rw [kQ (jQ e hd)]; exact s4 _ _ e
   show tSeq _ _ _ _ (upd H4 pd (.lst (ds.map V.int++[.int (p / 8 % 10007)])))
   generalize upd H4 pd (.lst (ds.map V.int++[.int (p / 8 % 10007)]))=H5 at *
   have sd5:=sd.snoc m1.1 m1.2
   have dl5:(ds++[p / 8 % 10007]).length=ds.length + 1:=by rw [List.length_append]; rfl
   generalize ds++[p / 8 % 10007]=ds5 at *
   have o3:=pZ (a:=p * 40692 + 2 * (i:Int) + 1) (n:=2147483563) (by decide)
   refine ⟨_,rfl,_,_,rfl,rfl,cmr (by decide) (by decide),_,rfl,_,_,rfl,rfl,cm (by decide) (by decide),_,_,rfl,rfl,_,_,rfl,rfl,_,_,rfl,rfl,(by decide:(0:Int) < 2147483563),?_⟩
   show fX 7 (V.int ((p * 40692 + 2 * (i:Int) + 1) % 2147483563)) _ _ _
   generalize (p * 40692 + 2 * (i:Int) + 1) % 2147483563=r at *
   refine ⟨_,rfl,_,rfl,_,_,rfl,rfl,cm o3.1 (by omega),_,_,rfl,rfl,(by decide:(0:Int) < 2147483647),?_⟩
   have m2:=pZ (a:=r * r % 2147483647 / 8) (n:=10007) (by decide)
   refine ⟨_,rfl,.inl ⟨rfl,_,SqL.of h5⟩,_,rfl,_,_,rfl,rfl,⟨by decide,by decide⟩,_,_,rfl,rfl,(by decide:(0:Int) < 10007),pd,_,_,rfl,rfl,h5,eZ (by rw [List.length_map]; omega),?_⟩
   exact ⟨ds5++[r * r % 2147483647 / 8 % 10007],b2,_,_,_,_,rfl,bb.1,bb.2,sd5.snoc m2.1 m2.2,by rw [List.length_append]; show ds5.length + 1<=_; omega,by rw [dQ,List.map_append]; rfl,by rw [kQ npd]; exact h5s,fun c o e=>by rw [kQ (jQ e hd)]; exact s5 _ _ e⟩
 rintro σ H3 ⟨ds,bse,c4,c5,c6,c7,rfl,z0,z1,sd,dl,h3,h3s,s3⟩
 rw [List.length_map] at dl
 refine ⟨_,rfl,_,rfl,pd,_,rfl,.inl (SqL.of h3),_,_,rfl,rfl,_,rfl,by rw [List.length_map]; omega,by rw [List.length_map]; omega,?_⟩
 rw [List.length_map]
 refine oW (lo:=0) (n:=((M:Int) - (ds.length:Int)).toNat) (fun j σ H'=>∃ (es:List Int) (c4 c5 c6 c7:Option V),σ=[some (.ref a),some (.int (M:Nat)),some (.ref pd),some (.int bse),c4,c5,c6,c7]/\SmD es/\es.length=ds.length + j/\H' pd=some (.lst (es.map V.int))/\iQ H H')
  ⟨ds,c4,c5,c6,c7,rfl,sd,rfl,h3,s3⟩ ?_ ?_
 ·rintro j σ H4 hj ⟨es,c4,c5,c6,c7,rfl,se,el,h4,s4⟩
  have e0:(0 + (j:Int))=(j:Int):=by omega
  rw [e0]
  have o1:=pZ (a:=bse + 7919 * (j:Int) + 13) (n:=2147483629) (by decide)
  refine ⟨_,rfl,_,rfl,_,_,rfl,rfl,cm (by decide) (by decide),_,_,rfl,rfl,_,_,rfl,rfl,_,_,rfl,rfl,(by decide:(0:Int) < 2147483629),?_⟩
  show fX 7 (V.int ((bse + 7919 * (j:Int) + 13) % 2147483629)) _ _ _
  generalize (bse + 7919 * (j:Int) + 13) % 2147483629=o at *
  refine ⟨_,rfl,_,rfl,_,_,rfl,rfl,cm o1.1 (by omega),_,_,rfl,rfl,(by decide:(0:Int) < 2147483647),?_⟩
  show fX 7 (V.int (o * o % 2147483647)) _ _ _
  generalize o * o % 2147483647=p at *
  have o3:=pZ (a:=p * 69621 + (j:Int)) (n:=2147483563) (by decide)
  refine ⟨_,rfl,_,_,rfl,rfl,cmr (by decide) (by decide),_,rfl,_,_,rfl,rfl,_,_,rfl,rfl,(by decide:(0:Int) < 2147483563),?_⟩
  show fX 7 (V.int ((p * 69621 + (j:Int)) % 2147483563)) _ _ _
  generalize (p * 69621 + (j:Int)) % 2147483563=r at *
  have m2:=pZ (a:=r * r % 2147483629 / 8) (n:=10007) (by decide)
  refine ⟨_,rfl,.inl ⟨rfl,_,SqL.of h4⟩,_,rfl,_,rfl,_,_,rfl,rfl,cm o3.1 (by omega),_,_,rfl,rfl,(by decide:(0:Int) < 2147483629),_,_,rfl,rfl,⟨by decide,by decide⟩,_,_,rfl,rfl,(by decide:(0:Int) < 10007),pd,_,_,rfl,rfl,h4,eZ (by rw [List.length_map]; omega),?_⟩
  exact ⟨es++[r * r % 2147483629 / 8 % 10007],_,_,_,_,rfl,se.snoc m2.1 m2.2,by rw [List.length_append]; show es.length + 1=_; omega,by rw [dQ,List.map_append]; rfl,fun c o e=>by rw [kQ (jQ e hd)]; exact s4 _ _ e⟩
 rintro σ H4 ⟨es,c4,c5,c6,c7,rfl,se,el,h4,s4⟩
 exact ⟨_,rfl,q pd es H4 hd s4 h4 (by omega) se⟩
end
def spBoxesD:Sp:=fun vs H Q _=>∃ (pd:Addr) (ds:List Int),vs=[.ref pd]/\H pd=some (.lst (ds.map V.int))/\100<=ds.length/\SmD ds /\
 ∀ (pb:Addr) (us:List V) (bs:List Box) (H':Hp),H pb=none->iQ H H'->gJ H' pb us bs->1<=bs.length->bs.length<=3->(∀ b∈bs,b.Ok)->vol bs<=9->(oZ bs).Nodup->(∀ b∈bs,b.size<=5)->Q (.ref pb) H'
def nm4 (k:Int):Str:=if k=0 then "b" else if k=1 then "at" else if k=2 then "xyz" else "count"
theorem a3X {k:Int} (h0:0<=k) (h1:k < 4):atI [V.str "b",.str "at",.str "xyz",.str "count"] k=some (.str (nm4 k)):=by
 have:k=0\/k=1\/k=2\/k=3:=by omega
 rcases this with rfl | rfl | rfl | rfl
 ·rfl
 ·rfl
 ·rfl
 ·rfl
theorem w8Z {a b:Int} (a0:0<=a) (a1:a < 4) (b0:0<=b) (b1:b < 4) (h:nm4 a=nm4 b):a=b:=by
 have ha:a=0\/a=1\/a=2\/a=3:=by omega
 have hb:b=0\/b=1\/b=2\/b=3:=by omega
 rcases ha with rfl | rfl | rfl | rfl <;> rcases hb with rfl | rfl | rfl | rfl <;> first | rfl | exact absurd h (by decide +kernel)
theorem f3Z (x:Int) {n:Nat} (h:n<=4):((List.range n).map fun (k:Nat)=>nm4 ((x + (k:Int)) % 4)).Nodup:=by
 refine List.pairwise_map.mpr ((List.nodup_range (n:=n)).imp_of_mem fun {a b} ha hb hne z=>?_)
 have h1:=List.mem_range.mp ha
 have h2:=List.mem_range.mp hb
 have m1:=pZ (a:=x + (a:Int)) (n:=4) (by decide)
 have m2:=pZ (a:=x + (b:Int)) (n:=4) (by decide)
 have:=w8Z m1.1 m1.2 m2.1 m2.2 z
 omega
theorem x8Z (b:Box):vol [b]=b.size:=by show b.size * 1=b.size; omega
section
theorem eV:yQ ["d","names","boxes","room","k","size","low","first"] ["d"] (gQ h1Q):=(by wtm_at "f")
theorem g3Z (h:Has K mg "_law_boxes" h1Q ["d"]) (B:Blt mg):Cal P w K mg base 1 "_law_boxes" ["d"] spBoxesD:=by
 refine h.cal eV (fun vs H Q E h=>?_) (fun f cdv A outer s H vs Q E hr h=>?_)
 ·obtain ⟨a,ns,rfl,_⟩:=h
  rfl
 obtain ⟨pd,ds,rfl,hD,dl,sd,q⟩:=h
 refine ⟨_,(bQ (qQ (i:=1) eV.nd rfl (Or.inl rfl) (jX (aQ tQ (aQ tQ (aQ tQ (aQ tQ eQ))))))
  (bQ (qQ (i:=2) eV.nd rfl (Or.inl rfl) (jX eQ))
  (bQ (qQ (i:=3) eV.nd rfl (Or.inl rfl) cQ)
  (bQ (uZ PassesOwn.never rfl (qJ rfl B.range (aQ (lQ hZ cQ (lQ gZ (mQ zQ (pv 0) cQ (fun _ _=>rfl)) cQ)) eQ)) (uQ (i:=4) eV.nd rfl (Or.inl rfl)) (bQ (qQ (i:=5) eV.nd rfl (Or.inl rfl) (bZ (s4Q rfl) rfl B.min n5Z (aQ (lQ hZ cQ (lQ gZ (mQ zQ (pv 0) (lQ hZ cQ (pv 4)) (fun _ _=>rfl)) cQ)) (aQ (pv 3) eQ))))
  (bQ (qQ (i:=3) eV.nd rfl (Or.inl rfl) (lQ nX (pv 3) (pv 5)))
  (bQ (qQ (i:=6) eV.nd rfl (Or.inl rfl) (lQ eJ (lQ gZ (mQ zQ (pv 0) (lQ hZ cQ (pv 4)) (fun _ _=>rfl)) (lQ eJ cQ (pv 5))) cQ))
  (bQ (cZ (rQ i0Z (lQ gZ (mQ zQ (pv 0) (lQ hZ cQ (pv 4)) (fun _ _=>rfl)) cQ) cQ (nQ _)) (fQ (qQ (i:=6) eV.nd rfl (Or.inl rfl) (lQ eJ (lQ gZ (mQ zQ (pv 0) (lQ hZ cQ (pv 4)) (fun _ _=>rfl)) cQ) cQ))) sQ)
  (bQ (qQ (i:=7) eV.nd rfl (Or.inl rfl) (lQ hZ (pv 6) (lQ gZ (lQ nX (mQ zQ (pv 0) (lQ hZ cQ (pv 4)) (fun _ _=>rfl)) cQ) (pv 5))))
  (fQ (lX (iV PySem.F.plainAttrs_list PySem.F.slot_list_append PySem.F.type_list_append iX (pv 2) (aQ (iZ (aQ (mQ zQ (pv 1) (lQ gZ (lQ hZ (mQ zQ (pv 0) cQ (fun _ _=>rfl)) (pv 4)) cQ) (fun _ _=>rfl)) (aQ (pv 6) (aQ (lQ eJ (lQ hZ (pv 6) (pv 5)) cQ) (aQ (pv 7) eQ))))) eQ))))))))))
  (fQ (oQ (pv 2))))))),?_⟩
 refine ⟨(by show 4<=sizeLine; decide),fun pn hn=>?_⟩
 have s1:=iQ.new hn (.lst [.str "b",.str "at",.str "xyz",.str "count"])
 have n1:upd H pn (.lst [.str "b",.str "at",.str "xyz",.str "count"]) pn=some (.lst [.str "b",.str "at",.str "xyz",.str "count"]):=dQ
 generalize upd H pn (.lst [.str "b",.str "at",.str "xyz",.str "count"])=H1 at *
 refine ⟨(by show 0<=sizeLine; decide),fun pb hb=>?_⟩
 have s2:=iQ.new hb (.lst [])
 have n2:=s2 _ _ n1
 have b2:upd H1 pb (.lst []) pb=some (.lst []):=dQ
 have hbH:H pb=none:=by
  cases e:H pb with
  | none=>rfl
  | some o=>rw [s1 _ _ e] at hb; cases hb
 have npb:pn≠pb:=fun z=>by rw [<-z,n1] at hb; cases hb
 generalize upd H1 pb (.lst [])=H2 at *
 have s02:=s1.trans s2
 have dpb:pd≠pb:=jQ hD hbH
 have dat:∀ {H':Hp},iQ H H'->∀ {i:Nat},i < 100->∃ x:Int,SqL K H' pd (ds.map V.int)/\atI (ds.map V.int) ((i:Nat):Int)=some (.int x)/\0<=x/\x < 10007:=fun s' i hi=>by
  obtain ⟨x,e1,_,e3,e4⟩:=d_at sd (i:=i) (by omega)
  exact ⟨x,SqL.of (s' _ _ hD),e1,e3,e4⟩
 obtain ⟨x0,q0,a0,x00,x01⟩:=dat s02 (i:=0) (by decide)
 have m0:=pZ (a:=x0) (n:=3) (by decide)
 obtain ⟨x10',a10,_,x100,x101⟩:=d_at sd (i:=10) (by omega)
 refine ⟨_,rfl,pd,_,_,_,rfl,rfl,q0,a0,_,_,rfl,rfl,(by decide:(0:Int) < 3),_,_,rfl,rfl,_,rfl,by omega,by omega,?_⟩
 refine oW (lo:=0) (n:=(1 + x0 % 3).toNat) (fun i σ H'=>∃ (us:List V) (bs:List Box) (room:Int) (c4 c5 c6 c7:Option V),σ=[some (.ref pd),some (.ref pn),some (.ref pb),some (.int room),c4,c5,c6,c7]/\gJ H' pb us bs/\bs.length=i/\(∀ b∈bs,b.Ok)/\1<=room/\room<=9/\(vol bs:Int) * room<=9/\H' pn=some (.lst [.str "b",.str "at",.str "xyz",.str "count"])/\iQ H H'/\(oZ bs=(List.range i).map fun (k:Nat)=>nm4 ((x10' + (k:Int)) % 4))/\∀ b∈bs,b.size<=5)
  ⟨[],[],9,none,none,none,none,rfl,⟨b2,⟨rfl,fun i x y h=>nomatch h⟩⟩,rfl,(fun b hb=>nomatch hb),by decide,by decide,by decide,n2,s02,rfl,(fun b hb=>nomatch hb)⟩ ?_ ?_
 ·rintro i σ H3 hi ⟨us,bs,room,c4,c5,c6,c7,rfl,X,bl,ok,r1,r9,rv,n3,s3,nn,b5⟩
  have e0:(0 + (i:Int))=(i:Int):=by omega
  rw [e0]
  have i3:i < 3:=by omega
  obtain ⟨x1,q1,a1,x10,x11⟩:=dat s3 (i:=1 + i) (by omega)
  obtain ⟨x4,q4,a4,x40,x41⟩:=dat s3 (i:=4 + i) (by omega)
  obtain ⟨x7,q7,a7,x70,x71⟩:=dat s3 (i:=7 + i) (by omega)
  have q10:=q7
  have m1:=pZ (a:=x1) (n:=5) (by decide)
  refine ⟨_,rfl,_,rfl,_,_,rfl,rfl,pd,_,_,_,rfl,rfl,q1,a1,_,_,rfl,rfl,(by decide:(0:Int) < 5),_,_,rfl,rfl,_,rfl,_,_,rfl,?_⟩
  obtain ⟨size,es⟩:∃ size:Int,size=(if room < 1 + x1 % 5 then room else 1 + x1 % 5):=⟨_,rfl⟩
  have sz:1<=size/\size<=5/\size<=room:=by rw [es]; split <;> omega
  rw [<-es]
  clear es
  refine ⟨_,rfl,_,rfl,_,_,rfl,rfl,⟨by omega,by omega⟩,?_⟩
  have hdiv:size * (room / size)<=room:=by
   have:=Int.mul_ediv_self_le (x:=room) (k:=size) (by omega)
   exact this
  have hd1:1<=room / size:=by
   have:=Int.ediv_le_ediv (a:=size) (b:=room) (c:=size) (by omega) sz.2.2
   rw [Int.ediv_self (by omega)] at this
   exact this
  have hd9:room / size<=9:=Int.le_trans (Int.ediv_le_self _ (by omega)) r9
  show fX 3 (V.int (room / size)) _ _ _
  generalize room / size=room2 at *
  have m4:=pZ (a:=x4) (n:=200 - size) (by omega)
  refine ⟨_,rfl,_,rfl,_,_,rfl,rfl,pd,_,_,_,rfl,rfl,q4,a4,_,rfl,_,_,rfl,rfl,_,_,rfl,rfl,(by omega:(0:Int) < 200 - size),_,_,rfl,rfl,?_⟩
  show fX 6 (V.int (x4 % (200 - size) - 99)) _ _ _
  have l0:-99<=x4 % (200 - size) - 99:=by omega
  have l1:x4 % (200 - size) - 99 + size - 1<=99:=by omega
  generalize x4 % (200 - size) - 99=low at *
  refine gset (i0Q (fun σ' H'=>H'=H3/\∃ low:Int,-99<=low/\low + size - 1<=99/\σ'=[some (.ref pd),some (.ref pn),some (.ref pb),some (.int room2),some (.int (i:Nat)),some (.int size),some (.int low),c7]) (fun R' hR'=>?_) ?_)
  ·refine ⟨_,rfl,_,rfl,_,_,rfl,rfl,pd,_,_,_,rfl,rfl,q7,a7,_,_,rfl,rfl,(by decide:(0:Int) < 3),_,_,rfl,rfl,_,rfl,sX (fun _=>?_) (fun _=>hR' _ _ ⟨rfl,low,l0,l1,rfl⟩)⟩
   have m5:=pZ (a:=x4) (n:=5) (by decide)
   exact ⟨_,rfl,_,rfl,_,_,rfl,rfl,pd,_,_,_,rfl,rfl,q4,a4,_,_,rfl,rfl,(by decide:(0:Int) < 5),_,_,rfl,rfl,hR' _ _ ⟨rfl,x4 % 5 - 2,by omega,by omega,rfl⟩⟩
  rintro σ' H4 ⟨rfl,low,l0,l1,rfl⟩
  have m7:=pZ (a:=x7 / 3) (n:=size) (by omega)
  refine ⟨_,rfl,_,rfl,_,rfl,_,_,rfl,rfl,pd,_,_,_,rfl,rfl,q7,a7,_,_,rfl,rfl,⟨by decide,by decide⟩,_,rfl,_,_,rfl,rfl,(by omega:(0:Int) < size),_,_,rfl,rfl,?_⟩
  show fX 7 (V.int (low + x7 / 3 % size)) _ _ _
  have f0:low<=low + x7 / 3 % size:=by omega
  have f1:low + x7 / 3 % size<=low + size - 1:=by omega
  generalize low + x7 / 3 % size=first at *
  have m10:=pZ (a:=x10' + (i:Int)) (n:=4) (by decide)
  have hz:=a3X m10.1 m10.2
  obtain ⟨z,ez⟩:∃ z,z=nm4 ((x10' + (i:Int)) % 4):=⟨_,rfl⟩
  rw [<-ez] at hz
  refine ⟨_,rfl,.inl ⟨rfl,_,SqL.of X.at_⟩,_,rfl,_,rfl,pd,_,_,_,rfl,rfl,q10,a10,_,rfl,_,_,rfl,rfl,_,_,rfl,rfl,(by decide:(0:Int) < 4),pn,_,_,_,rfl,rfl,SqL.of n3,hz,_,rfl,_,rfl,_,rfl,_,_,rfl,rfl,_,_,rfl,rfl,_,rfl,(by show 4<=sizeLine; decide),fun t ht=>?_⟩
  have sT:=iQ.new ht (.tup [.str z,.int low,.int (low + size - 1),.int first])
  have hT:upd H4 t (.tup [.str z,.int low,.int (low + size - 1),.int first]) t=some (.tup (Box.tup ⟨z,low,low + size - 1,first⟩)):=dQ
  have X5:=X.same sT
  have n5:=sT _ _ n3
  have s5:=s3.trans sT
  have ul:=X5.each.1
  refine ⟨pb,_,_,rfl,rfl,X5.at_,eZ (by omega),?_⟩
  refine ⟨us++[.ref t],bs++[⟨z,low,low + size - 1,first⟩],room2,_,_,_,_,rfl,⟨dQ,pJ (X5.each.mono fun u b h=>h.put X5.at_) ⟨rfl,fun j x y hx hy=>?_⟩⟩,by rw [List.length_append,bl]; rfl,fun b hb=>?_,hd1,hd9,?_,by rw [kQ npb]; exact n5,fun c o e=>by rw [kQ (jQ e hbH)]; exact s5 _ _ e,by unfold oZ at nn ⊢; rw [List.map_append,nn,List.range_succ,List.map_append,List.map_singleton,ez]; rfl,fun b hb=>?_⟩
  ·match j,hx,hy with
   | 0,rfl,rfl=>exact ⟨t,rfl,by rw [kQ (fun z=>by rw [z,X.at_] at ht; cases ht)]; exact hT⟩
  ·rcases List.mem_append.mp hb with h1 | h1
   ·exact ok b h1
   ·rw [List.mem_singleton.mp h1]
    exact ⟨f0,f1,l0,by show low + size - 1<=99; omega,by show low + size - 1 - low < 20; omega⟩
  ·rw [j2Q,x8Z]
   have e1:((Box.size ⟨z,low,low + size - 1,first⟩:Nat):Int)=size:=by show ((low + size - 1 - low + 1).toNat:Int)=size; omega
   have:((vol bs * Box.size ⟨z,low,low + size - 1,first⟩:Nat):Int)=(vol bs:Int) * size:=by rw [Int.natCast_mul,e1]
   rw [this,Int.mul_assoc]
   exact Int.le_trans (Int.mul_le_mul_of_nonneg_left hdiv (by omega)) rv
  ·rcases List.mem_append.mp hb with h1 | h1
   ·exact b5 b h1
   ·rw [List.mem_singleton.mp h1]
    show (low + size - 1 - low + 1).toNat<=5
    omega
 rintro σ H3 ⟨us,bs,room,c4,c5,c6,c7,rfl,X,bl,ok,r1,r9,rv,n3,s3,nn,b5⟩
 refine ⟨_,rfl,q pb us bs H3 hbH s3 X (by omega) (by omega) ok ?_ (by rw [nn]; exact f3Z x10' (by omega)) b5⟩
 have:(vol bs:Int)<=(vol bs:Int) * room:=by
  have:=Int.mul_le_mul_of_nonneg_left r1 (show (0:Int)<=(vol bs:Int) by omega)
  omega
 omega
end
def ROk:Say->Prop
 | .rest _ m r=>0<=r/\r < m
 | _=>True
theorem y8Z {x m r:Int} (h0:0<=r) (h1:r < m):(x % m == r)=((x - r) % m == 0):=by
 rw [Bool.eq_iff_iff,beq_iff_eq,beq_iff_eq]
 have e:=Int.sub_emod x r m
 rw [Int.emod_eq_of_lt h0 h1] at e
 have b0:=Int.emod_nonneg x (show m≠0 by omega)
 have b1:=Int.emod_lt_of_pos x (show 0 < m by omega)
 constructor
 ·intro h
  rw [e,h,Int.sub_self,Int.zero_emod]
 ·intro h
  rw [e] at h
  have hd:=Int.dvd_of_emod_eq_zero h
  obtain ⟨k,hk⟩:=hd
  rcases Int.lt_trichotomy k 0 with hk0 | hk0 | hk0
  ·have:m * k<=m * (-1):=Int.mul_le_mul_of_nonneg_left (by omega) (by omega)
   omega
  ·rw [hk0] at hk
   omega
  ·have:m * 1<=m * k:=Int.mul_le_mul_of_nonneg_left (by omega) (by omega)
   omega
def spLSo:Sp:=fun vs H Q _=>∃ (p q:Addr) (s:Say) (ns:List Int),vs=[.ref p,.ref q]/\H p=some (.tup s.tup)/\H q=some (.tup (ns.map V.int))/\s.In ns.length/\ROk s/\(∀ n∈ns,-1000 < n/\n < 1000)/\Q (.bl (s.so ns)) H
def spOfOne:Sp:=fun vs H Q _=>∃ (form:Int) (a:Nat) (pbx:Addr) (y:Int) (b:Box),vs=[.int form,.int a,.ref pbx,.int y]/\H pbx=some (.tup b.tup)/\b.Ok/\0<=y /\
 ∀ (p:Addr) (s:Say) (H':Hp),H p=none->iQ H H'->H' p=some (.tup s.tup)->(∀ many,a < many->s.In many)->ROk s->Q (.ref p) H'
def spSayingD:Sp:=fun vs H Q _=>∃ (x y:Int) (pb:Addr) (us:List V) (bs:List Box),vs=[.int x,.int y,.ref pb]/\gJ H pb us bs/\(∀ b∈bs,b.Ok)/\1<=bs.length/\bs.length<=3/\0<=x/\0<=y /\
 ∀ (p:Addr) (s:Say) (H':Hp),H p=none->iQ H H'->H' p=some (.tup s.tup)->s.In bs.length->ROk s->Q (.ref p) H'
section
theorem g1Z:yQ ["saying","values","form","one","other"] ["saying","values"] (gQ sSo):=(by wtm_at "f")
theorem x1X (h:Has K mg "_law_so" sSo ["saying","values"]):Cal P w K mg base 1 "_law_so" ["saying","values"] spLSo:=by
 refine h.cal g1Z (fun vs H Q E h=>?_) (fun f cdv A outer s H vs Q E hr h=>?_)
 ·obtain ⟨p,q,s,ns,rfl,_⟩:=h
  rfl
 obtain ⟨p,q,s,ns,rfl,hp,hq,hi,hro,hb,k⟩:=h
 refine ⟨_,(@bQ _ _ _ _ _ (@qQ _ _ 2 _ _ _ _ g1Z.nd rfl (Or.inl rfl) (@mQ _ _ _ _ _ _ _ pQ (pv 0) cQ (fun _ _=>rfl)) rfl (Or.inl rfl)) (@bQ _ _ _ _ _ (@qQ _ _ 3 _ _ _ _ g1Z.nd rfl (Or.inl rfl) (@mQ _ _ _ _ _ _ _ pQ (pv 1) (@mQ _ _ _ _ _ _ _ pQ (pv 0) cQ (fun _ _=>rfl)) (fun _ _=>rfl)) rfl (Or.inl rfl)) (@bQ _ _ _ _ _ (@cZ _ _ _ _ _ _ _ _ (@rQ _ _ _ _ _ _ _ _ aZ (pv 2) tQ (nQ _)) (@fQ _ _ _ (@oQ _ _ _ _ (@lZ _ _ _ _ _ _ _ _ aZ (pv 3) (@mQ _ _ _ _ _ _ _ pQ (pv 0) cQ (fun _ _=>rfl)) (nQ _)))) sQ) (@bQ _ _ _ _ _ (@cZ _ _ _ _ _ _ _ _ (@rQ _ _ _ _ _ _ _ _ aZ (pv 2) tQ (nQ _)) (@fQ _ _ _ (@oQ _ _ _ _ (@lZ _ _ _ _ _ _ _ _ b4Z (pv 3) (@mQ _ _ _ _ _ _ _ pQ (pv 0) cQ (fun _ _=>rfl)) (nQ _)))) sQ) (@bQ _ _ _ _ _ (@cZ _ _ _ _ _ _ _ _ (@rQ _ _ _ _ _ _ _ _ aZ (pv 2) tQ (nQ _)) (@fQ _ _ _ (@oQ _ _ _ _ (@lZ _ _ _ _ _ _ _ _ r4Q (pv 3) (@mQ _ _ _ _ _ _ _ pQ (pv 0) cQ (fun _ _=>rfl)) (nQ _)))) sQ) (@bQ _ _ _ _ _ (@cZ _ _ _ _ _ _ _ _ (@rQ _ _ _ _ _ _ _ _ aZ (pv 2) tQ (nQ _)) (@fQ _ _ _ (@oQ _ _ _ _ (@lZ _ _ _ _ _ _ _ _ aZ (@lQ _ _ _ _ _ _ _ _ gZ (pv 3) (@mQ _ _ _ _ _ _ _ pQ (pv 0) cQ (fun _ _=>rfl))) (@mQ _ _ _ _ _ _ _ pQ (pv 0) cQ (fun _ _=>rfl)) (nQ _)))) sQ) (@bQ _ _ _ _ _ (@cZ _ _ _ _ _ _ _ _ (@rQ _ _ _ _ _ _ _ _ aZ (pv 2) tQ (nQ _)) (@fQ _ _ _ (@oQ _ _ _ _ (z3Z (@lZ _ _ _ _ _ _ _ _ aZ (pv 3) (@mQ _ _ _ _ _ _ _ pQ (pv 0) cQ (fun _ _=>rfl)) (nQ _)) (y5Q (@lZ _ _ _ _ _ _ _ _ aZ (pv 3) (@mQ _ _ _ _ _ _ _ pQ (pv 0) cQ (fun _ _=>rfl)) (nQ _)))))) sQ) (@bQ _ _ _ _ _ (@cZ _ _ _ _ _ _ _ _ (@rQ _ _ _ _ _ _ _ _ aZ (pv 2) tQ (nQ _)) (@fQ _ _ _ (@oQ _ _ _ _ (@lZ _ _ _ _ _ _ _ _ b0Q (pv 3) (@mQ _ _ _ _ _ _ _ pQ (pv 0) cQ (fun _ _=>rfl)) (nQ _)))) sQ) (@bQ _ _ _ _ _ (@qQ _ _ 4 _ _ _ _ g1Z.nd rfl (Or.inl rfl) (@mQ _ _ _ _ _ _ _ pQ (pv 1) (@mQ _ _ _ _ _ _ _ pQ (pv 0) cQ (fun _ _=>rfl)) (fun _ _=>rfl)) rfl (Or.inl rfl)) (@bQ _ _ _ _ _ (@cZ _ _ _ _ _ _ _ _ (@rQ _ _ _ _ _ _ _ _ aZ (pv 2) tQ (nQ _)) (@fQ _ _ _ (@oQ _ _ _ _ (@lZ _ _ _ _ _ _ _ _ aZ (pv 3) (pv 4) (nQ _)))) sQ) (@bQ _ _ _ _ _ (@cZ _ _ _ _ _ _ _ _ (@rQ _ _ _ _ _ _ _ _ aZ (pv 2) tQ (nQ _)) (@fQ _ _ _ (@oQ _ _ _ _ (@lZ _ _ _ _ _ _ _ _ q4Q (pv 3) (pv 4) (nQ _)))) sQ) (@bQ _ _ _ _ _ (@cZ _ _ _ _ _ _ _ _ (@rQ _ _ _ _ _ _ _ _ aZ (pv 2) tQ (nQ _)) (@fQ _ _ _ (@oQ _ _ _ _ (@lZ _ _ _ _ _ _ _ _ r4Q (pv 3) (pv 4) (nQ _)))) sQ) (@bQ _ _ _ _ _ (@cZ _ _ _ _ _ _ _ _ (@rQ _ _ _ _ _ _ _ _ aZ (pv 2) tQ (nQ _)) (@fQ _ _ _ (@oQ _ _ _ _ (@lZ _ _ _ _ _ _ _ _ aZ (@lQ _ _ _ _ _ _ _ _ eJ (pv 3) (pv 4)) (@mQ _ _ _ _ _ _ _ pQ (pv 0) cQ (fun _ _=>rfl)) (nQ _)))) sQ) (@bQ _ _ _ _ _ (@cZ _ _ _ _ _ _ _ _ (@rQ _ _ _ _ _ _ _ _ aZ (pv 2) tQ (nQ _)) (@fQ _ _ _ (@oQ _ _ _ _ (@lZ _ _ _ _ _ _ _ _ aZ (@lQ _ _ _ _ _ _ _ _ hZ (pv 3) (pv 4)) (@mQ _ _ _ _ _ _ _ pQ (pv 0) cQ (fun _ _=>rfl)) (nQ _)))) sQ) (@bQ _ _ _ _ _ (@cZ _ _ _ _ _ _ _ _ (@rQ _ _ _ _ _ _ _ _ aZ (pv 2) tQ (nQ _)) (@fQ _ _ _ (@oQ _ _ _ _ (@lZ _ _ _ _ _ _ _ _ aZ (@lQ _ _ _ _ _ _ _ _ hZ (pv 3) (pv 4)) (@mQ _ _ _ _ _ _ _ pQ (pv 1) (@mQ _ _ _ _ _ _ _ pQ (pv 0) cQ (fun _ _=>rfl)) (fun _ _=>rfl)) (nQ _)))) sQ) (@fQ _ _ _ (@oQ _ _ _ _ (@lZ _ _ _ _ _ _ _ _ aZ (@lQ _ _ _ _ _ _ _ _ aJ (pv 3) (pv 4)) (@mQ _ _ _ _ _ _ _ pQ (pv 1) (@mQ _ _ _ _ _ _ _ pQ (pv 0) cQ (fun _ _=>rfl)) (fun _ _=>rfl)) (nQ _))))))))))))))))))),?_⟩
 cases s with
 | is_ a n =>
  have ha:a < ns.length:=hi
  wtm_at "ss"
  refine ⟨q,_,_,_,rfl,rfl,SqT.of hq,mZ ha,?_⟩
  wtm_at "ss"
  exact zJ k gX
 | nev a n =>
  have ha:a < ns.length:=hi
  wtm_at "ss"
  refine ⟨q,_,_,_,rfl,rfl,SqT.of hq,mZ ha,?_⟩
  wtm_at "ss"
  exact zJ k (by rw [gX]; rfl)
 | frm a n =>
  have ha:a < ns.length:=hi
  wtm_at "ss"
  refine ⟨q,_,_,_,rfl,rfl,SqT.of hq,mZ ha,?_⟩
  wtm_at "ss"
  exact k
 | to_ a n =>
  have ha:a < ns.length:=hi
  wtm_at "ss"
  refine ⟨q,_,_,_,rfl,rfl,SqT.of hq,mZ ha,?_⟩
  wtm_at "ss"
  exact k
 | rest a m r =>
  have ha:a < ns.length:=hi.1
  have hm:0 < m:=hi.2
  wtm_at "ss"
  refine ⟨q,_,_,_,rfl,rfl,SqT.of hq,mZ ha,?_⟩
  wtm_at "ss"
  refine zJ k ?_
  rw [gX]
  exact y8Z hro.1 hro.2
 | eith a n m =>
  have ha:a < ns.length:=hi
  wtm_at "ss"
  refine ⟨q,_,_,_,rfl,rfl,SqT.of hq,mZ ha,?_⟩
  wtm_at "ss"
  refine sX (fun c=>?_) (fun c=>?_)
  ·refine zJ k ?_
   show true=(ns.getD a 0 == n || ns.getD a 0 == m)
   rw [V.int.inj c,beq_self_eq_true,Bool.true_or]
  ·wtm_at "ss"
   refine zJ k ?_
   rw [gX]
   show _=(ns.getD a 0 == n || ns.getD a 0 == m)
   have:(ns.getD a 0 == n)=false:=by
    rw [beq_eq_false_iff_ne]
    intro z
    exact c (by rw [z])
   rw [this,Bool.false_or]
 | same a b =>
  have ha:a < ns.length:=hi.1
  have hb':b < ns.length:=hi.2
  wtm_at "ss"
  refine ⟨q,_,_,_,rfl,rfl,SqT.of hq,mZ ha,?_⟩
  wtm_at "ss"
  refine ⟨q,_,_,_,rfl,rfl,SqT.of hq,mZ hb',?_⟩
  wtm_at "ss"
  exact zJ k gX
 | below a b =>
  have ha:a < ns.length:=hi.1
  have hb':b < ns.length:=hi.2
  wtm_at "ss"
  refine ⟨q,_,_,_,rfl,rfl,SqT.of hq,mZ ha,?_⟩
  wtm_at "ss"
  refine ⟨q,_,_,_,rfl,rfl,SqT.of hq,mZ hb',?_⟩
  wtm_at "ss"
  exact k
 | most a b =>
  have ha:a < ns.length:=hi.1
  have hb':b < ns.length:=hi.2
  wtm_at "ss"
  refine ⟨q,_,_,_,rfl,rfl,SqT.of hq,mZ ha,?_⟩
  wtm_at "ss"
  refine ⟨q,_,_,_,rfl,rfl,SqT.of hq,mZ hb',?_⟩
  wtm_at "ss"
  exact k
 | gap a b n =>
  have ha:a < ns.length:=hi.1
  have hb':b < ns.length:=hi.2
  wtm_at "ss"
  refine ⟨q,_,_,_,rfl,rfl,SqT.of hq,mZ ha,?_⟩
  wtm_at "ss"
  refine ⟨q,_,_,_,rfl,rfl,SqT.of hq,mZ hb',?_⟩
  wtm_at "ss"
  exact zJ k gX
 | sum a b n =>
  have ha:a < ns.length:=hi.1
  have hb':b < ns.length:=hi.2
  wtm_at "ss"
  refine ⟨q,_,_,_,rfl,rfl,SqT.of hq,mZ ha,?_⟩
  wtm_at "ss"
  refine ⟨q,_,_,_,rfl,rfl,SqT.of hq,mZ hb',?_⟩
  wtm_at "ss"
  exact zJ k gX
 | adds a b c =>
  have ha:a < ns.length:=hi.1
  have hb':b < ns.length:=hi.2.1
  have hc:c < ns.length:=hi.2.2
  wtm_at "ss"
  refine ⟨q,_,_,_,rfl,rfl,SqT.of hq,mZ ha,?_⟩
  wtm_at "ss"
  refine ⟨q,_,_,_,rfl,rfl,SqT.of hq,mZ hb',?_⟩
  wtm_at "ss"
  refine ⟨q,_,_,_,rfl,rfl,SqT.of hq,mZ hc,?_⟩
  wtm_at "ss"
  exact zJ k gX
 | times a b c =>
  have ha:a < ns.length:=hi.1
  have hb':b < ns.length:=hi.2.1
  have hc:c < ns.length:=hi.2.2
  have ba:=hb _ (j3Q ha)
  have bb:=hb _ (j3Q hb')
  wtm_at "ss"
  refine ⟨q,_,_,_,rfl,rfl,SqT.of hq,mZ ha,?_⟩
  wtm_at "ss"
  refine ⟨q,_,_,_,rfl,rfl,SqT.of hq,mZ hb',?_⟩
  wtm_at "ss"
  refine ⟨.inl ⟨by omega,by omega⟩,?_⟩
  wtm_at "ss"
  refine ⟨q,_,_,_,rfl,rfl,SqT.of hq,mZ hc,?_⟩
  wtm_at "ss"
  exact zJ k gX
theorem l2Q:yQ ["form","a","box","y","low","size","spot"] ["form","a","box","y"] (gQ j1Q):=(by wtm_at "f")
theorem k6Z (h:Has K mg "_law_of_one" j1Q ["form","a","box","y"]):Cal P w K mg base 1 "_law_of_one" ["form","a","box","y"] spOfOne:=by
 refine h.cal l2Q (fun vs H Q E h=>?_) (fun f cdv A outer s H vs Q E hr h=>?_)
 ·obtain ⟨_,_,_,_,_,rfl,_⟩:=h
  rfl
 obtain ⟨form,a,pbx,y,b,rfl,hbx,ok,y0,q⟩:=h
 have f1:=ok.fl
 have f2:=ok.fh
 refine ⟨_,(@bQ _ _ _ _ _ (@qQ _ _ 4 _ _ _ _ l2Q.nd rfl (Or.inl rfl) (@mQ _ _ _ _ _ _ _ pQ (pv 2) cQ (fun _ _=>rfl)) rfl (Or.inl rfl)) (@bQ _ _ _ _ _ (@qQ _ _ 5 _ _ _ _ l2Q.nd rfl (Or.inl rfl) (@lQ _ _ _ _ _ _ _ _ hZ (@lQ _ _ _ _ _ _ _ _ eJ (@mQ _ _ _ _ _ _ _ pQ (pv 2) cQ (fun _ _=>rfl)) (pv 4)) cQ) rfl (Or.inl rfl)) (@bQ _ _ _ _ _ (@cZ _ _ _ _ _ _ _ _ (@rQ _ _ _ _ _ _ _ _ aZ (pv 0) cQ (nQ _)) (@fQ _ _ _ (@oQ _ _ _ _ (@iZ _ _ _ _ _ (@aQ _ _ _ _ _ tQ (@aQ _ _ _ _ _ (pv 1) (@aQ _ _ _ _ _ (@lQ _ _ _ _ _ _ _ _ hZ cQ (@lQ _ _ _ _ _ _ _ _ gZ (pv 3) cQ)) (@aQ _ _ _ _ _ (@lQ _ _ _ _ _ _ _ _ gZ (@lQ _ _ _ _ _ _ _ _ nX (pv 3) cQ) (@lQ _ _ _ _ _ _ _ _ hZ cQ (@lQ _ _ _ _ _ _ _ _ gZ (pv 3) cQ))) eQ rfl) rfl) rfl) rfl)))) sQ) (@bQ _ _ _ _ _ (@cZ _ _ _ _ _ _ _ _ (@rQ _ _ _ _ _ _ _ _ aZ (pv 0) cQ (nQ _)) (@fQ _ _ _ (@oQ _ _ _ _ (@iZ _ _ _ _ _ (@aQ _ _ _ _ _ tQ (@aQ _ _ _ _ _ (pv 1) (@aQ _ _ _ _ _ (@lQ _ _ _ _ _ _ _ _ hZ (pv 4) (@lQ _ _ _ _ _ _ _ _ gZ (pv 3) (pv 5))) eQ rfl) rfl) rfl)))) sQ) (@bQ _ _ _ _ _ (@cZ _ _ _ _ _ _ _ _ (@PW.pt _ _ _ (@xV _ _ _ _ _ _ _ (@rQ _ _ _ _ _ _ _ _ aZ (pv 0) cQ (nQ _)) (@mW _ _ _ _ (@rQ _ _ _ _ _ _ _ _ aZ (pv 5) cQ (nQ _))))) (@fQ _ _ _ (@oQ _ _ _ _ (@iZ _ _ _ _ _ (@aQ _ _ _ _ _ tQ (@aQ _ _ _ _ _ (pv 1) (@aQ _ _ _ _ _ (@lQ _ _ _ _ _ _ _ _ hZ (pv 4) (@lQ _ _ _ _ _ _ _ _ gZ (pv 3) (pv 5))) eQ rfl) rfl) rfl)))) sQ) (@bQ _ _ _ _ _ (@qQ _ _ 6 _ _ _ _ l2Q.nd rfl (Or.inl rfl) (@lQ _ _ _ _ _ _ _ _ hZ (pv 4) (@lQ _ _ _ _ _ _ _ _ gZ (pv 3) (@lQ _ _ _ _ _ _ _ _ eJ (pv 5) cQ))) rfl (Or.inl rfl)) (@bQ _ _ _ _ _ (@cZ _ _ _ _ _ _ _ _ (@rQ _ _ _ _ _ _ _ _ aZ (pv 0) cQ (nQ _)) (@fQ _ _ _ (@oQ _ _ _ _ (@iZ _ _ _ _ _ (@aQ _ _ _ _ _ tQ (@aQ _ _ _ _ _ (pv 1) (@aQ _ _ _ _ _ (@lQ _ _ _ _ _ _ _ _ hZ (pv 6) cQ) eQ rfl) rfl) rfl)))) sQ) (@bQ _ _ _ _ _ (@cZ _ _ _ _ _ _ _ _ (@rQ _ _ _ _ _ _ _ _ aZ (pv 0) cQ (nQ _)) (@fQ _ _ _ (@oQ _ _ _ _ (@iZ _ _ _ _ _ (@aQ _ _ _ _ _ tQ (@aQ _ _ _ _ _ (pv 1) (@aQ _ _ _ _ _ (pv 6) eQ rfl) rfl) rfl)))) sQ) (@fQ _ _ _ (@oQ _ _ _ _ (@iZ _ _ _ _ _ (@aQ _ _ _ _ _ tQ (@aQ _ _ _ _ _ (pv 1) (@aQ _ _ _ _ _ (pv 6) (@aQ _ _ _ _ _ (@lQ _ _ _ _ _ _ _ _ hZ (@lQ _ _ _ _ _ _ _ _ hZ (pv 6) cQ) (@lQ _ _ _ _ _ _ _ _ gZ (@lQ _ _ _ _ _ _ _ _ nX (pv 3) (pv 5)) (@lQ _ _ _ _ _ _ _ _ eJ (@mQ _ _ _ _ _ _ _ pQ (pv 2) cQ (fun _ _=>rfl)) (pv 6)))) eQ rfl) rfl) rfl) rfl)))))))))))),?_⟩
 have sz:1<=b.hi - b.lo + 1:=by omega
 have my:=pZ (a:=y) (n:=b.hi - b.lo + 1) (by omega)
 wtm_at "ss"
 refine sX (fun _=>?_) (fun _=>?_)
 ·have m5:=pZ (a:=y) (n:=5) (by decide)
  have mr:=pZ (a:=y / 5) (n:=2 + y % 5) (by omega)
  refine ⟨_,rfl,_,rfl,_,_,rfl,rfl,(by decide:(0:Int) < 5),_,_,rfl,rfl,_,rfl,_,_,rfl,rfl,⟨by decide,by decide⟩,_,rfl,_,_,rfl,rfl,(by decide:(0:Int) < 5),_,_,rfl,rfl,_,_,rfl,rfl,(by omega:(0:Int) < 2 + y % 5),(by show 4<=sizeLine; decide),fun p hp=>?_⟩
  exact q p (.rest a (2 + y % 5) (y / 5 % (2 + y % 5))) _ hp (iQ.new hp _) dQ (fun many h=>⟨h,by omega⟩) mr
 wtm_at "ss"
 refine sX (fun _=>?_) (fun _=>?_)
 ·refine ⟨_,rfl,_,rfl,_,rfl,_,rfl,_,_,rfl,rfl,(by omega:(0:Int) < b.hi - b.lo + 1),_,_,rfl,rfl,(by show 3<=sizeLine; decide),fun p hp=>?_⟩
  exact q p (.nev a (b.lo + y % (b.hi - b.lo + 1))) _ hp (iQ.new hp _) dQ (fun many h=>h) trivial
 have isq:∀ p:Addr,H p=none->Q (.ref p) (upd H p (.tup [.str "is",.int a,.int (b.lo + y % (b.hi - b.lo + 1))])):=fun p hp=>q p (.is_ a (b.lo + y % (b.hi - b.lo + 1))) _ hp (iQ.new hp _) dQ (fun many h=>h) trivial
 wtm_at "ss"
 refine sX (fun _=>iteT ?_) (fun _=>?_)
 ·exact ⟨_,rfl,_,rfl,_,rfl,_,rfl,_,_,rfl,rfl,(by omega:(0:Int) < b.hi - b.lo + 1),_,_,rfl,rfl,(by show 3<=sizeLine; decide),isq⟩
 wtm_at "ss"
 refine sX (fun _=>?_) (fun e1=>?_)
 ·exact ⟨_,rfl,_,rfl,_,rfl,_,rfl,_,_,rfl,rfl,(by omega:(0:Int) < b.hi - b.lo + 1),_,_,rfl,rfl,(by show 3<=sizeLine; decide),isq⟩
 have e1:b.hi - b.lo + 1≠1:=fun z=>e1 (congrArg V.int z)
 have m1:=pZ (a:=y) (n:=b.hi - b.lo + 1 - 1) (by omega)
 refine ⟨_,rfl,_,rfl,_,rfl,_,_,rfl,rfl,_,_,rfl,rfl,(by omega:(0:Int) < b.hi - b.lo + 1 - 1),_,_,rfl,rfl,?_⟩
 show fX 6 (V.int (b.lo + y % (b.hi - b.lo + 1 - 1))) _ _ _
 have s0:b.lo<=b.lo + y % (b.hi - b.lo + 1 - 1):=by omega
 have s1:b.lo + y % (b.hi - b.lo + 1 - 1) < b.hi:=by omega
 generalize b.lo + y % (b.hi - b.lo + 1 - 1)=spot at *
 wtm_at "ss"
 refine sX (fun _=>?_) (fun _=>?_)
 ·refine ⟨_,rfl,_,rfl,_,_,rfl,rfl,(by show 3<=sizeLine; decide),fun p hp=>?_⟩
  exact q p (.frm a (spot + 1)) _ hp (iQ.new hp _) dQ (fun many h=>h) trivial
 wtm_at "ss"
 refine sX (fun _=>?_) (fun _=>?_)
 ·refine ⟨_,rfl,_,rfl,(by show 3<=sizeLine; decide),fun p hp=>?_⟩
  exact q p (.to_ a spot) _ hp (iQ.new hp _) dQ (fun many h=>h) trivial
 refine ⟨_,rfl,_,rfl,_,rfl,_,_,rfl,rfl,_,rfl,_,rfl,_,_,rfl,rfl,⟨by omega,by have:=ok.w; omega⟩,_,rfl,pbx,_,((2:Nat):Int),_,rfl,rfl,SqT.of hbx,rfl,_,rfl,_,_,rfl,rfl,_,_,rfl,rfl,(by omega:(0:Int) < b.hi - spot),_,_,rfl,rfl,(by show 4<=sizeLine; decide),fun p hp=>?_⟩
 exact q p (.eith a spot (spot + 1 + y / (b.hi - b.lo + 1) % (b.hi - spot))) _ hp (iQ.new hp _) dQ (fun many h=>h) trivial
end
section
theorem gY:yQ ["x","y","boxes","many","a","form","b","low","high"] ["x","y","boxes"] (gQ bO):=(by wtm_at "f")
theorem gap7 {k:Int} (h0:0<=k) (h1:k < 7):∃ z:Int,atI [V.int (-20),.int (-2),.int (-1),.int 1,.int 2,.int 20,.int 3] k=some (.int z):=by
 have:k=0\/k=1\/k=2\/k=3\/k=4\/k=5\/k=6:=by omega
 rcases this with rfl | rfl | rfl | rfl | rfl | rfl | rfl <;> exact ⟨_,rfl⟩
theorem y9Q (h:Has K mg "_law_saying" bO ["x","y","boxes"]) (B:Blt mg) (cO:Cal P w K mg base 1 "_law_of_one" ["form","a","box","y"] spOfOne):Cal P w K mg base 2 "_law_saying" ["x","y","boxes"] spSayingD:=by
 refine h.cal gY (fun vs H Q E h=>?_) (fun f cdv A outer s H vs Q E hr h=>?_)
 ·obtain ⟨_,_,_,_,_,rfl,_⟩:=h
  rfl
 obtain ⟨x,y,pb,us,bs,rfl,X,ok,l1,l3,x0,y0,q⟩:=h
 have hr1:sZ 1 _:=hr
 have hl:=X.each.1
 refine ⟨_,(@bQ _ _ _ _ _ (@qQ _ _ 3 _ _ _ _ gY.nd rfl (Or.inl rfl) (@bZ _ _ _ _ _ _ _ _ _ dZ rfl B.len pX (@aQ _ _ _ _ _ (pv 2) eQ rfl) (by decide) (by decide) rfl rfl) rfl (Or.inl rfl)) (@bQ _ _ _ _ _ (@qQ _ _ 4 _ _ _ _ gY.nd rfl (Or.inl rfl) (@lQ _ _ _ _ _ _ _ _ gZ (@lQ _ _ _ _ _ _ _ _ nX (pv 0) cQ) (pv 3)) rfl (Or.inl rfl)) (@bQ _ _ _ _ _ (@qQ _ _ 5 _ _ _ _ gY.nd rfl (Or.inl rfl) (@lQ _ _ _ _ _ _ _ _ gZ (pv 0) cQ) rfl (Or.inl rfl)) (@bQ _ _ _ _ _ (@cZ _ _ _ _ _ _ _ _ (@PW.pt _ _ _ (@xV _ _ _ _ _ _ _ (@rQ _ _ _ _ _ _ _ _ q4Q (pv 5) cQ (nQ _)) (@mW _ _ _ _ (@rQ _ _ _ _ _ _ _ _ aZ (pv 3) cQ (nQ _))))) (@fQ _ _ _ (@oQ _ _ _ _ (wQ cO hr1 rfl (@aQ _ _ _ _ _ (@lQ _ _ _ _ _ _ _ _ gZ (pv 5) cQ) (@aQ _ _ _ _ _ (pv 4) (@aQ _ _ _ _ _ (@mQ _ _ _ _ _ _ _ zQ (pv 2) (pv 4) (fun _ _=>rfl)) (@aQ _ _ _ _ _ (pv 1) eQ rfl) rfl) rfl) rfl)))) sQ) (@bQ _ _ _ _ _ (@qQ _ _ 6 _ _ _ _ gY.nd rfl (Or.inl rfl) (@lQ _ _ _ _ _ _ _ _ gZ (@lQ _ _ _ _ _ _ _ _ hZ (@lQ _ _ _ _ _ _ _ _ hZ (pv 4) cQ) (@lQ _ _ _ _ _ _ _ _ gZ (@lQ _ _ _ _ _ _ _ _ nX (pv 0) cQ) (@lQ _ _ _ _ _ _ _ _ eJ (pv 3) cQ))) (pv 3)) rfl (Or.inl rfl)) (@bQ _ _ _ _ _ (@cZ _ _ _ _ _ _ _ _ (@rQ _ _ _ _ _ _ _ _ aZ (pv 5) cQ (nQ _)) (@fQ _ _ _ (@oQ _ _ _ _ (@iZ _ _ _ _ _ (@aQ _ _ _ _ _ tQ (@aQ _ _ _ _ _ (pv 4) (@aQ _ _ _ _ _ (pv 6) eQ rfl) rfl) rfl)))) sQ) (@bQ _ _ _ _ _ (@cZ _ _ _ _ _ _ _ _ (@PW.pt _ _ _ (@xV _ _ _ _ _ _ _ (@rQ _ _ _ _ _ _ _ _ aZ (pv 5) cQ (nQ _)) (@mW _ _ _ _ (@PW.pt _ _ _ (@x5Q _ _ _ _ _ _ _ (@rQ _ _ _ _ _ _ _ _ i0Z (pv 5) cQ (nQ _)) (@a2Q _ _ _ _ (@rQ _ _ _ _ _ _ _ _ aZ (pv 3) cQ (nQ _)))))))) (@fQ _ _ _ (@oQ _ _ _ _ (@iZ _ _ _ _ _ (@aQ _ _ _ _ _ tQ (@aQ _ _ _ _ _ (pv 4) (@aQ _ _ _ _ _ (pv 6) eQ rfl) rfl) rfl)))) sQ) (@bQ _ _ _ _ _ (@qQ _ _ 7 _ _ _ _ gY.nd rfl (Or.inl rfl) (@bZ _ _ _ _ _ _ _ _ _ (s4Q rfl) rfl B.min n5Z (@aQ _ _ _ _ _ (pv 4) (@aQ _ _ _ _ _ (pv 6) eQ rfl) rfl) (by decide) (by decide) rfl rfl) rfl (Or.inl rfl)) (@bQ _ _ _ _ _ (@qQ _ _ 8 _ _ _ _ gY.nd rfl (Or.inl rfl) (@bZ _ _ _ _ _ _ _ _ _ (v1Z rfl) rfl B.max t1X (@aQ _ _ _ _ _ (pv 4) (@aQ _ _ _ _ _ (pv 6) eQ rfl) rfl) (by decide) (by decide) rfl rfl) rfl (Or.inl rfl)) (@bQ _ _ _ _ _ (@cZ _ _ _ _ _ _ _ _ (@rQ _ _ _ _ _ _ _ _ aZ (pv 5) cQ (nQ _)) (@fQ _ _ _ (@oQ _ _ _ _ (@iZ _ _ _ _ _ (@aQ _ _ _ _ _ tQ (@aQ _ _ _ _ _ (pv 7) (@aQ _ _ _ _ _ (pv 8) eQ rfl) rfl) rfl)))) sQ) (@bQ _ _ _ _ _ (@cZ _ _ _ _ _ _ _ _ (@rQ _ _ _ _ _ _ _ _ aZ (pv 5) cQ (nQ _)) (@fQ _ _ _ (@oQ _ _ _ _ (@iZ _ _ _ _ _ (@aQ _ _ _ _ _ tQ (@aQ _ _ _ _ _ (pv 7) (@aQ _ _ _ _ _ (pv 8) (@aQ _ _ _ _ _ (@mQ _ _ _ _ _ _ _ zQ (@jX _ _ _ _ (@aQ _ _ _ _ _ (@o2Q _ _ _ _ _ _ qO cQ) (@aQ _ _ _ _ _ (@o2Q _ _ _ _ _ _ qO cQ) (@aQ _ _ _ _ _ (@o2Q _ _ _ _ _ _ qO cQ) (@aQ _ _ _ _ _ cQ (@aQ _ _ _ _ _ cQ (@aQ _ _ _ _ _ cQ (@aQ _ _ _ _ _ cQ eQ rfl) rfl) rfl) rfl) rfl) rfl) rfl)) (@lQ _ _ _ _ _ _ _ _ gZ (pv 1) cQ) (fun _ _=>rfl)) eQ rfl) rfl) rfl) rfl)))) sQ) (@bQ _ _ _ _ _ (@cZ _ _ _ _ _ _ _ _ (@rQ _ _ _ _ _ _ _ _ aZ (pv 5) cQ (nQ _)) (@fQ _ _ _ (@oQ _ _ _ _ (@iZ _ _ _ _ _ (@aQ _ _ _ _ _ tQ (@aQ _ _ _ _ _ (pv 7) (@aQ _ _ _ _ _ (pv 8) (@aQ _ _ _ _ _ (@mQ _ _ _ _ _ _ _ zQ (@jX _ _ _ _ (@aQ _ _ _ _ _ (@lQ _ _ _ _ _ _ _ _ eJ (@lQ _ _ _ _ _ _ _ _ gZ (@lQ _ _ _ _ _ _ _ _ nX (pv 1) cQ) cQ) cQ) (@aQ _ _ _ _ _ (@lQ _ _ _ _ _ _ _ _ eJ (@lQ _ _ _ _ _ _ _ _ gZ (@lQ _ _ _ _ _ _ _ _ nX (pv 1) cQ) cQ) cQ) eQ rfl) rfl)) (@lQ _ _ _ _ _ _ _ _ gZ (pv 1) cQ) (fun _ _=>rfl)) eQ rfl) rfl) rfl) rfl)))) sQ) (@fQ _ _ _ (@oQ _ _ _ _ (@iZ _ _ _ _ _ (@aQ _ _ _ _ _ (@mQ _ _ _ _ _ _ _ zQ (@jX _ _ _ _ (@aQ _ _ _ _ _ tQ (@aQ _ _ _ _ _ tQ eQ rfl) rfl)) (@lQ _ _ _ _ _ _ _ _ eJ (pv 5) cQ) (fun _ _=>rfl)) (@aQ _ _ _ _ _ (pv 7) (@aQ _ _ _ _ _ (pv 8) (@aQ _ _ _ _ _ (@lQ _ _ _ _ _ _ _ _ eJ (@lQ _ _ _ _ _ _ _ _ eJ cQ (pv 7)) (pv 8)) eQ rfl) rfl) rfl) rfl)))))))))))))))),?_⟩
 refine ⟨_,rfl,pb,us,rfl,.inl (SqL.of X.at_),?_⟩
 rw [hl]
 have ma:=pZ (a:=x / 13) (n:=(bs.length:Int)) (by omega)
 refine ⟨_,rfl,_,_,rfl,rfl,⟨by decide,by decide⟩,_,rfl,_,_,rfl,rfl,(by omega:(0:Int) < (bs.length:Int)),?_⟩
 show fX 4 (V.int (x / 13 % (bs.length:Int))) _ _ _
 obtain ⟨a,ea⟩:=Int.eq_ofNat_of_zero_le ma.1
 rw [ea] at ma ⊢
 clear ea
 have al:a < bs.length:=by have:=ma.2; omega
 have mf:=pZ (a:=x) (n:=13) (by decide)
 refine ⟨_,rfl,_,_,rfl,rfl,(by decide:(0:Int) < 13),?_⟩
 show fX 5 (V.int (x % 13)) _ _ _
 generalize x % 13=form at *
 obtain ⟨v,b,hv,hb,pq,rfl,hpq⟩:=X.each.get (i:=a) (by omega)
 have bok:=ok b (List.mem_of_getElem? hb)
 have m6:=pZ (a:=form) (n:=6) (by decide)
 refine ⟨_,rfl,_,_,rfl,rfl,_,rfl,sX (fun _=>iteT ?_) (fun e6=>?_)⟩
 ·refine ⟨_,rfl,_,_,rfl,rfl,(by decide:(0:Int) < 6),_,rfl,_,rfl,_,rfl,pb,_,_,_,rfl,rfl,SqL.of X.at_,oX hv,_,rfl,_,a,pq,y,b,rfl,hpq,bok,y0,fun p s' H' hp s1 hs i1 r1=>q p s' H' hp s1 hs (i1 _ al) r1⟩
 refine ⟨_,rfl,rfl,_,rfl,sX (fun _=>?_) (fun e1=>?_)⟩
 ·refine ⟨_,rfl,_,_,rfl,rfl,(by decide:(0:Int) < 6),_,rfl,_,rfl,_,rfl,pb,_,_,_,rfl,rfl,SqL.of X.at_,oX hv,_,rfl,_,a,pq,y,b,rfl,hpq,bok,y0,fun p s' H' hp s1 hs i1 r1=>q p s' H' hp s1 hs (i1 _ al) r1⟩
 have n2:2<=bs.length:=by
  have:(bs.length:Int)≠1:=fun z=>e1 (congrArg V.int z)
  omega
 have mt:=pZ (a:=x / 39) (n:=(bs.length:Int) - 1) (by omega)
 have mb:=pZ (a:=(a:Int) + 1 + x / 39 % ((bs.length:Int) - 1)) (n:=(bs.length:Int)) (by omega)
 refine ⟨_,rfl,_,_,rfl,rfl,_,rfl,_,_,rfl,rfl,⟨by decide,by decide⟩,_,rfl,_,_,rfl,rfl,_,_,rfl,rfl,(by omega:(0:Int) < (bs.length:Int) - 1),_,_,rfl,rfl,_,rfl,_,_,rfl,rfl,(by omega:(0:Int) < (bs.length:Int)),?_⟩
 show fX 6 (V.int (((a:Int) + 1 + x / 39 % ((bs.length:Int) - 1)) % (bs.length:Int))) _ _ _
 have bne:((a:Int) + 1 + x / 39 % ((bs.length:Int) - 1)) % (bs.length:Int)≠(a:Int):=by
  generalize x / 39 % ((bs.length:Int) - 1)=t at *
  have:bs.length=2\/bs.length=3:=by omega
  rcases this with e | e <;> rw [e] at mt mb ⊢ <;> omega
 obtain ⟨c,ec⟩:=Int.eq_ofNat_of_zero_le mb.1
 rw [ec] at mb bne ⊢
 clear ec mt
 have cl:c < bs.length:=by have:=mb.2; omega
 refine ⟨_,rfl,rfl,_,rfl,sX (fun _=>?_) (fun e7=>?_)⟩
 ·exact ⟨_,rfl,_,rfl,(by show 3<=sizeLine; decide),fun p hp=>q p (.below a c) _ hp (iQ.new hp _) dQ ⟨al,cl⟩ trivial⟩
 have e7:form≠7:=fun z=>e7 (congrArg V.int z)
 have f6:6<=form:=by
  have:¬ form < 6:=e6
  omega
 refine nxs (i0Q (fun σ' H'=>H'=H/\σ'=[some (.int x),some (.int y),some (.ref pb),some (.int (bs.length:Int)),some (.int (a:Int)),some (.int form),some (.int (c:Int)),none,none]/\form≠8/\(form<=10\/bs.length=3)) (fun R' hR'=>?_) ?_)
 ·have mq:∀ p:Addr,H p=none->Q (.ref p) (upd H p (.tup [.str "most",.int (a:Int),.int (c:Int)])):=fun p hp=>q p (.most a c) _ hp (iQ.new hp _) dQ ⟨al,cl⟩ trivial
  refine ⟨_,rfl,rfl,_,rfl,sX (fun _=>iteT ?_) (fun e8=>?_)⟩
  ·exact ⟨_,rfl,_,rfl,(by show 3<=sizeLine; decide),mq⟩
  have e8:form≠8:=fun z=>e8 (congrArg V.int z)
  refine ⟨_,rfl,_,_,rfl,rfl,_,rfl,sX (fun e10=>?_) (fun e10=>?_)⟩
  ·refine ⟨_,rfl,rfl,_,rfl,sX (fun _=>?_) (fun e2=>?_)⟩
   ·exact ⟨_,rfl,_,rfl,(by show 3<=sizeLine; decide),mq⟩
   ·have e2:(bs.length:Int)≠2:=fun z=>e2 (congrArg V.int z)
    exact hR' _ _ ⟨rfl,rfl,e8,.inr (by omega)⟩
  ·exact kY (hR' _ _ ⟨rfl,rfl,e8,.inl (by have:¬ 10 < form:=e10; omega)⟩)
 rintro σ' H' ⟨rfl,rfl,e8,e10⟩
 obtain ⟨lo,hi,elo,ehi,lh,ll,hl2⟩:∃ lo hi:Nat,(if (c:Int) < (a:Int) then (c:Int) else (a:Int))=(lo:Int)/\(if (c:Int) > (a:Int) then (c:Int) else (a:Int))=(hi:Int)/\lo < hi/\lo < bs.length/\hi < bs.length:=by
  by_cases hca:c < a
  ·exact ⟨c,a,by rw [if_pos (by omega)],by rw [if_neg (by omega)],hca,cl,al⟩
  ·exact ⟨a,c,by rw [if_neg (by omega)],by rw [if_pos (by omega)],by omega,al,cl⟩
 refine ⟨_,rfl,_,rfl,_,_,rfl,?_⟩
 rw [elo]
 refine ⟨_,rfl,_,rfl,_,_,rfl,?_⟩
 rw [ehi]
 refine ⟨_,rfl,rfl,_,rfl,sX (fun _=>?_) (fun e6'=>?_)⟩
 ·exact ⟨_,rfl,_,rfl,(by show 3<=sizeLine; decide),fun p hp=>q p (.same lo hi) _ hp (iQ.new hp _) dQ ⟨ll,hl2⟩ trivial⟩
 have e6':form≠6:=fun z=>e6' (congrArg V.int z)
 refine ⟨_,rfl,rfl,_,rfl,sX (fun _=>?_) (fun e9=>?_)⟩
 ·have m7:=pZ (a:=y) (n:=7) (by decide)
  obtain ⟨g,hg⟩:=gap7 m7.1 m7.2
  refine ⟨_,rfl,_,rfl,_,rfl,_,rfl,_,rfl,(by show 7<=sizeLine; decide),fun pl hpl=>?_⟩
  refine ⟨_,rfl,_,_,rfl,rfl,(by decide:(0:Int) < 7),pl,_,_,_,rfl,rfl,SqL.of dQ,hg,(by show 4<=sizeLine; decide),fun p hp=>?_⟩
  exact q p (.gap lo hi g) _ (iQ.free (iQ.new hpl _) hp) ((iQ.new hpl _).trans (iQ.new hp _)) dQ ⟨ll,hl2⟩ trivial
 have e9:form≠9:=fun z=>e9 (congrArg V.int z)
 refine ⟨_,rfl,rfl,_,rfl,sX (fun _=>?_) (fun e10'=>?_)⟩
 ·refine ⟨_,rfl,_,rfl,_,rfl,_,_,rfl,rfl,⟨by decide,by decide⟩,_,_,rfl,rfl,(by decide:(0:Int) < 81),_,_,rfl,rfl,_,rfl,_,_,rfl,rfl,⟨by decide,by decide⟩,_,_,rfl,rfl,(by decide:(0:Int) < 9),_,_,rfl,rfl,(by show 2<=sizeLine; decide),fun pl hpl=>?_⟩
  have m2:=pZ (a:=y) (n:=2) (by decide)
  obtain ⟨g,hg⟩:∃ g:Int,atI [V.int (y / 2 % 81 - 40),V.int (y / 2 % 9 - 4)] (y % 2)=some (.int g):=by
   have:y % 2=0\/y % 2=1:=by omega
   rcases this with e | e <;> rw [e] <;> exact ⟨_,rfl⟩
  refine ⟨_,rfl,_,_,rfl,rfl,(by decide:(0:Int) < 2),pl,_,_,_,rfl,rfl,SqL.of dQ,hg,(by show 4<=sizeLine; decide),fun p hp=>?_⟩
  exact q p (.sum lo hi g) _ (iQ.free (iQ.new hpl _) hp) ((iQ.new hpl _).trans (iQ.new hp _)) dQ ⟨ll,hl2⟩ trivial
 have e10':form≠10:=fun z=>e10' (congrArg V.int z)
 have b3:bs.length=3:=e10.elim (fun e=>by omega) id
 have fm:form=11\/form=12:=by omega
 refine ⟨(by show 2<=sizeLine; decide),fun pl hpl=>?_⟩
 obtain ⟨d,ed,dl⟩:∃ d:Nat,(3:Int) - lo - hi=(d:Int)/\d < bs.length:=⟨3 - lo - hi,by omega,by omega⟩
 rcases fm with rfl | rfl
 ·refine ⟨_,rfl,_,_,rfl,rfl,pl,_,_,_,rfl,rfl,SqL.of dQ,rfl,_,rfl,_,rfl,_,rfl,_,_,rfl,rfl,_,rfl,_,_,rfl,rfl,(by show 4<=sizeLine; decide),fun p hp=>?_⟩
  exact q p (.adds lo hi d) _ (iQ.free (iQ.new hpl _) hp) ((iQ.new hpl _).trans (iQ.new hp _)) (by rw [dQ]; show some (HO.tup [.str "adds",.int (lo:Int),.int (hi:Int),.int ((3:Int) - lo - hi)])=_; rw [ed]; rfl) ⟨ll,hl2,dl⟩ trivial
 ·refine ⟨_,rfl,_,_,rfl,rfl,pl,_,_,_,rfl,rfl,SqL.of dQ,rfl,_,rfl,_,rfl,_,rfl,_,_,rfl,rfl,_,rfl,_,_,rfl,rfl,(by show 4<=sizeLine; decide),fun p hp=>?_⟩
  exact q p (.times lo hi d) _ (iQ.free (iQ.new hpl _) hp) ((iQ.new hpl _).trans (iQ.new hp _)) (by rw [dQ]; show some (HO.tup [.str "times",.int (lo:Int),.int (hi:Int),.int ((3:Int) - lo - hi)])=_; rw [ed]; rfl) ⟨ll,hl2,dl⟩ trivial
end
def Say.head:Say->Str
 | .is_ _ _=>"is" | .frm _ _=>"from" | .to_ _ _=>"to" | .rest _ _ _=>"rest" | .eith _ _ _=>"either" | .nev _ _=>"never" | .same _ _=>"same" | .below _ _=>"below" | .most _ _=>"most" | .gap _ _ _=>"gap" | .sum _ _ _=>"sum" | .adds _ _ _=>"adds" | .times _ _ _=>"times"
def Say.figs:Say->List Int
 | .is_ a n | .frm a n | .to_ a n | .nev a n=>[a,n]
 | .rest a m r=>[a,m,r]
 | .eith a n k=>[a,n,k]
 | .same a b | .below a b | .most a b=>[a,b]
 | .gap a b n | .sum a b n=>[a,b,n]
 | .adds a b c | .times a b c=>[a,b,c]
theorem Say.tup_eq (s:Say):s.tup = .str s.head :: s.figs.map V.int:=by cases s <;> rfl
def Say.key (s:Say):List Key:=.inr s.head :: s.figs.map Sum.inl
theorem Say.tup_key (s:Say):s.tup=s.key.map kV:=by cases s <;> rfl
def b3X (f:Str) (ns:List Int):Option Say:=match ns with
 | [a,n]=>if f = "is" then some (.is_ a.toNat n) else if f = "from" then some (.frm a.toNat n) else if f = "to" then some (.to_ a.toNat n) else if f = "never" then some (.nev a.toNat n) else if f = "same" then some (.same a.toNat n.toNat) else if f = "below" then some (.below a.toNat n.toNat) else some (.most a.toNat n.toNat)
 | [a,n,k]=>if f = "rest" then some (.rest a.toNat n k) else if f = "either" then some (.eith a.toNat n k) else if f = "gap" then some (.gap a.toNat n.toNat k) else if f = "sum" then some (.sum a.toNat n.toNat k) else if f = "adds" then some (.adds a.toNat n.toNat k.toNat) else some (.times a.toNat n.toNat k.toNat)
 | _=>none
theorem j8Q (s:Say):b3X s.head s.figs=some s:=by
 cases s <;> rfl
theorem inl_inj:∀ {ns ms:List Int},(ns.map Sum.inl:List Key)=ms.map Sum.inl->ns=ms
 | [],[],_=>rfl
 | [],_ :: _,h=>nomatch h
 | _ :: _,[],h=>nomatch h
 | n :: r,m :: t,h=>by
  rw [List.map_cons,List.map_cons] at h
  injection h with h1 h2
  injection h1 with h1
  rw [h1,inl_inj h2]
theorem Say.key_inj {s t:Say} (h:s.key=t.key):s=t:=by
 unfold Say.key at h
 injection h with h1 h2
 injection h1 with h1
 have h3:=inl_inj h2
 have e:=j8Q s
 rw [h1,h3,j8Q t] at e
 exact (Option.some.inj e).symm
theorem l6Z {x:V} {xs:List V}:pV (x :: xs) (some 1) none=xs:=by
 unfold pV
 have h1:HT.sIx (x :: xs).length 0 (some 1)=1:=by
  show (if (1:Int) < 0 then ((1:Int) + ((x :: xs).length:Int)).toNat else Nat.min (1:Int).toNat (x :: xs).length)=1
  rw [if_neg (by decide)]
  exact Nat.min_eq_left (by simp)
 have h2:HT.sIx (x :: xs).length (x :: xs).length (none:Option Int)=(x :: xs).length:=rfl
 rw [h1,h2]
 show (xs.take ((xs.length + 1) - 1))=xs
 rw [Nat.add_sub_cancel,List.take_length]
theorem lk0 {k:Str} {v:V} {r:List (Str × V)}:((k,v) :: r).lookup k=some v:=by simp [List.lookup]
theorem lk1 {k k':Str} {v:V} {r:List (Str × V)} {o:Option V} (h:(k == k')=false) (g:r.lookup k=o):((k',v) :: r).lookup k=o:=by simp [List.lookup,h,g]
def ckf (pe:Addr) (full:Int) (pf pn pk:Addr):List (Str × V):=[("every",.ref pe),("full",.int full),("first",.ref pf),("nexts",.ref pn),("known",.ref pk)]
section
variable (pe:Addr) (full:Int) (pf pn pk:Addr)
theorem m6Z:(ckf pe full pf pn pk).lookup ("every":Str)=some (V.ref pe):=lk0
theorem z8Z:(ckf pe full pf pn pk).lookup ("full":Str)=some (V.int full):=lk1 (by decide +kernel) lk0
theorem n6Z:(ckf pe full pf pn pk).lookup ("first":Str)=some (V.ref pf):=lk1 (by decide +kernel) (lk1 (by decide +kernel) lk0)
theorem o6Z:(ckf pe full pf pn pk).lookup ("nexts":Str)=some (V.ref pn):=lk1 (by decide +kernel) (lk1 (by decide +kernel) (lk1 (by decide +kernel) lk0))
theorem x0Q:(ckf pe full pf pn pk).lookup ("known":Str)=some (V.ref pk):=lk1 (by decide +kernel) (lk1 (by decide +kernel) (lk1 (by decide +kernel) (lk1 (by decide +kernel) lk0)))
theorem a4Q {k:Str} (h:(k == "every")=false/\(k == "full")=false/\(k == "first")=false/\(k == "nexts")=false/\(k == "known")=false):(ckf pe full pf pn pk).lookup k=none:=lk1 h.1 (lk1 h.2.1 (lk1 h.2.2.1 (lk1 h.2.2.2.1 (lk1 h.2.2.2.2 rfl))))
end
structure TxC (K:W.Frag) (mg:Str->Option Value) (C:Addr):Prop where
 cl:Cls K C
 nE:zV K C "every"
 nF:zV K C "full"
 n1:zV K C "first"
 nN:zV K C "nexts"
 nK:zV K C "known"
 mgC:mg "Checker"=some (.ref C)
def Kn (vl:List (List Int)) (kv:List (List Key × V)):Prop:=∀ s:Say,vZ kv s.key=none\/vZ kv s.key=some (.int (rowOf vl s:Nat))
theorem Kn.put {vl:List (List Int)} {kv:List (List Key × V)} (h:Kn vl kv) (s:Say):Kn vl (dX kv s.key (.int (rowOf vl s:Nat))):=fun t=>by
 rw [bJ]
 by_cases e:t.key=s.key
 ·rw [if_pos e,Say.key_inj e]; exact .inr rfl
 ·rw [if_neg e]; exact h t
theorem h1Z {κ:Type} [DecidableEq κ] (kvs:List (κ × V)) (k:κ) (v:V):(dX kvs k v).length<=kvs.length + 1:=by
 cases e:vZ kvs k with
 | none=>rw [tY _ e,List.length_append]; exact Nat.le_refl _
 | some x=>unfold dX; split <;> simp
structure iW (H:Hp) (C a dx pe:Addr) (full:Int) (pf pn pk:Addr) (uv:List V) (vl:List (List Int)) (kv:List (List Key × V)):Prop where
 i:H a=some (.ins C dx (ckf pe full pf pn pk))
 v:mJ H pe uv vl
 k:H pk=some (.dT kv)
 n:Kn vl kv
theorem iW.same {H H':Hp} {C a dx pe:Addr} {full:Int} {pf pn pk:Addr} {uv:List V} {vl:List (List Int)} {kv:List (List Key × V)} (h:iW H C a dx pe full pf pn pk uv vl kv) (s:iQ H H'):iW H' C a dx pe full pf pn pk uv vl kv:=⟨s _ _ h.i,h.v.same s,s _ _ h.k,h.n⟩
def z9Q (C:Addr):Sp:=fun vs H Q _=>∃ (a dx pe pf pn pk ps:Addr) (full:Int) (uv:List V) (vl:List (List Int)) (kv:List (List Key × V)) (many:Nat) (s:Say),vs=[.ref a,.ref ps]/\iW H C a dx pe full pf pn pk uv vl kv/\H ps=some (.tup s.tup)/\vl.length<=400/\s.In many/\Vok many vl/\kv.length<=90000 /\
 ∀ (H':Hp) (kv':List (List Key × V)),But pk H H'->iW H' C a dx pe full pf pn pk uv vl kv'->kv'.length<=kv.length + 1->Q (.int (rowOf vl s:Nat)) H'
section
variable {C:Addr}
theorem iW.put {H:Hp} {a dx pe:Addr} {full:Int} {pf pn pk:Addr} {uv:List V} {vl:List (List Int)} {kv:List (List Key × V)} (h:iW H C a dx pe full pf pn pk uv vl kv) (s:Say):iW (upd H pk (.dT (dX kv s.key (.int (rowOf vl s:Nat))))) C a dx pe full pf pn pk uv vl (dX kv s.key (.int (rowOf vl s:Nat))):=by
 have ne:∀ {b:Addr} {o:HO},H b=some o->(∀ x,o ≠ .dT x)->b≠pk:=fun hb ho z=>by rw [z,h.k] at hb; cases hb; exact ho _ rfl
 refine ⟨by rw [kQ (ne h.i (fun _ z=>nomatch z))]; exact h.i,⟨by rw [kQ (ne h.v.at_ (fun _ z=>nomatch z))]; exact h.v.at_,h.v.each.mono fun u v ⟨p,e,hp⟩=>⟨p,e,by rw [kQ (ne hp (fun _ z=>nomatch z))]; exact hp⟩⟩,dQ,h.n.put s⟩
theorem y1X:yQ ["self","saying"] ["self","saying"] (gQ tO):=(by wtm_at "f")
theorem a9Z (h:HasM K C "so_of" "Checker.so_of" tO ["self","saying"]) (T:TxC K mg C) (cS:Cal P w K mg base 3 "so_bits" ["saying","every"] spSoBits):MCal P w K mg base 4 C "so_of" ["self","saying"] (z9Q C):=by
 refine h.cal y1X (fun vs H Q E h=>?_) (fun f cdv A outer s H vs Q E hr h=>?_)
 ·obtain ⟨_,_,_,_,_,_,_,_,_,_,_,_,_,rfl,_⟩:=h
  rfl
 obtain ⟨a,dx,pe,pf,pn,pk,ps,full,uv,vl,kv,many,s,rfl,M,hps,l400,inn,vok,kl,q⟩:=h
 have hu:=uY hr
 refine ⟨_,(bQ (cZ (y3Z (c2Z hu (pv 1) (fU (pv 0) rfl))) (fQ (lK hu (fU (pv 0) rfl) (pv 1) (wQ cS hr rfl (aQ (pv 1) (aQ (fU (pv 0) rfl) eQ))) rfl)) sQ)
  (fQ (oQ (aV hu (fU (pv 0) rfl) (pv 1) (fun _ _=>rfl))))),?_⟩
 have key:∀ {H':Hp} {kv':List (List Key × V)},iQ H H'->H' pk=some (.dT kv')->aY H' pk (.ref ps) (vZ kv' s.key):=fun s' hk=>aY.t hk (by rw [<-s.tup_key]; exact s' _ _ hps)
 refine ⟨_,rfl,_,rfl,a,C,dx,_,_,rfl,M.i,T.cl,T.nK,x0Q _ _ _ _ _,pk,_,rfl,key (iQ.refl _) M.k,_,rfl,?_⟩
 rcases M.n s with e | e
 ·refine rV (by rw [e]; rfl) ?_
  refine ⟨_,rfl,_,rfl,a,C,dx,_,_,rfl,M.i,T.cl,T.nE,m6Z _ _ _ _ _,ps,pe,s,uv,vl,many,rfl,hps,M.v,l400,inn,vok,fun H1 s1=>?_⟩
  have M1:=M.same s1
  refine ⟨_,rfl,a,C,dx,_,_,rfl,M1.i,T.cl,T.nK,x0Q _ _ _ _ _,_,rfl,pk,_,rfl,.inr ⟨kv,s.key,ps,M1.k,rfl,by rw [<-s.tup_key]; exact s1 _ _ hps,Nat.lt_of_lt_of_le (by omega:kv.length < 100000) (h2Q (Nat.le_refl _)),rfl⟩,?_⟩
  have M2:=M1.put s
  refine ⟨_,rfl,a,C,dx,_,_,rfl,M2.i,T.cl,T.nK,x0Q _ _ _ _ _,_,rfl,pk,_,rfl,?_,q _ _ (fun b o n e=>by rw [kQ n]; exact s1 _ _ e) M2 (h1Z _ _ _)⟩
  have:=aY.t (k:=s.key) (b:=ps) M2.k (by rw [<-s.tup_key,kQ (fun z=>by have h1:=M.k; rw [<-z,hps] at h1; cases h1)]; exact s1 _ _ hps)
  rw [bJ,if_pos rfl] at this
  exact this
 ·refine nJ (by rw [e]; rfl) ?_
  refine ⟨_,rfl,a,C,dx,_,_,rfl,M.i,T.cl,T.nK,x0Q _ _ _ _ _,_,rfl,pk,_,rfl,?_,q H kv (But.refl _ _) M (by omega)⟩
  rw [<-e]
  exact key (iQ.refl _) M.k
end
abbrev Ent:=Str × List (V × Say)
structure jJ (H:Hp) (p pl:Addr) (e:Ent):Prop where
 t:H p=some (.tup [.str e.1,.ref pl])
 l:H pl=some (.lst (e.2.map Prod.fst))
 s:∀ x∈e.2,mV H x.1 x.2
theorem jJ.same {H H':Hp} {p pl:Addr} {e:Ent} (h:jJ H p pl e) (s:iQ H H'):jJ H' p pl e:=⟨s _ _ h.t,s _ _ h.l,fun x hx=>(h.s x hx).same s⟩
theorem jJ.put {H:Hp} {p pl l:Addr} {e:Ent} {xs ys:List V} (h:jJ H p pl e) (hl:H l=some (.lst xs)) (hn:pl≠l):jJ (upd H l (.lst ys)) p pl e:=
 ⟨by rw [kQ (zO h.t hl (fun z=>nomatch z))]; exact h.t,by rw [kQ hn]; exact h.l,fun x hx=>(h.s x hx).put hl⟩
structure kZ (G H:Hp) (pp:Addr) (as:List (Addr × Addr)) (es:List Ent):Prop where
 fr:G pp=none
 at_:H pp=some (.lst (as.map fun a=>V.ref a.1))
 each:tX (fun (a:Addr × Addr) e=>G a.1=none/\G a.2=none/\a.2≠pp/\jJ H a.1 a.2 e) as es
theorem kZ.same {G H H':Hp} {pp:Addr} {as:List (Addr × Addr)} {es:List Ent} (h:kZ G H pp as es) (s:iQ H H'):kZ G H' pp as es:=⟨h.fr,s _ _ h.at_,h.each.mono fun _ _ ⟨a,b,c,d⟩=>⟨a,b,c,d.same s⟩⟩
def spCopied:Sp:=fun vs H Q _=>∃ (pp:Addr) (G:Hp) (as:List (Addr × Addr)) (es:List Ent),vs=[.ref pp]/\kZ G H pp as es/\es.length<=60/\(∀ e∈es,e.2.length<=100)/\∀ (p:Addr) (as':List (Addr × Addr)) (H':Hp),iQ H H'->kZ H H' p as' es->Q (.ref p) H'
section
theorem h3Z {X:Cx} (K:W.Frag) (h:X.K=K:=by rfl):yV X (.type "list") (fun xs H Q=>∃ p ys,xs=[.ref p]/\(SqL K H p ys\/SqT K H p ys)/\∀ l,H l=none->Q (.ref l) (L2.upd H l (.lst ys))):=by
 subst h
 exact mK
theorem p6Z:yQ ["paper"] ["paper"] (gQ tK):=(by wtm_at "f")
theorem i3Z (h:Has K mg "_law_copied" tK ["paper"]) (B:Blt mg):Cal P w K mg base 1 "_law_copied" ["paper"] spCopied:=by
 refine h.cal p6Z (fun vs H Q E h=>?_) (fun f cdv A outer s H vs Q E hr h=>?_)
 ·obtain ⟨_,_,_,_,rfl,_⟩:=h
  rfl
 obtain ⟨pp,G,as,es,rfl,A0,l60,l100,q⟩:=h
 refine ⟨_,(fQ (oQ (nY (gQ tK) ["paper"] (N:=["mark","some"]) (ix:=[none,none]) rfl (by wtm_at "g") (xZ (pv 0)) (fun _ _ _ _=>pgt K 2 rfl (jZ (uQ (i:=0) (show (["mark","some"]:List Str).Nodup by decide +kernel) rfl (Or.inl rfl)) (jZ (uQ (i:=1) (show (["mark","some"]:List Str).Nodup by decide +kernel) rfl (Or.inl rfl)) dJ))) (fun _ _ _ _=>bW) (fun _ _ _ _=>(iZ (aQ (pv 0) (aQ (tV (h3Z K) rfl B.list n0Q (aQ (pv 1) eQ)) eQ))))))),?_⟩
 have hl:=A0.each.1
 refine ⟨_,rfl,pp,rfl,⟨_,SqL.of A0.at_⟩,fun D hD=>?_⟩
 refine qV (K:=K) (a:=pp) (xs:=as.map fun a=>V.ref a.1) (fun i ys σ H2=>(∃ c0 c1:Option V,σ=[c0,c1])/\∃ as':List (Addr × Addr),ys=as'.map (fun a=>V.ref a.1)/\as'.length=i/\H2 D=some (.lst ys)/\iQ H H2/\tX (fun (a:Addr × Addr) e=>H a.1=none/\H a.2=none/\a.2≠D/\jJ H2 a.1 a.2 e) as' (es.take i))
  ⟨⟨none,none,rfl⟩,[],rfl,rfl,dQ,iQ.new hD _,⟨rfl,fun i x y h=>nomatch h⟩⟩ (fun i ys σ H2 _ hh=>by obtain ⟨_,_,_,_,_,s2,_⟩:=hh; exact SqL.of (s2 _ _ A0.at_)) ?_ ?_
 ·rintro i x ys σ H2 hi ⟨⟨c0,c1,rfl⟩,as',rfl,al,h2,s2,A2⟩
  rw [List.getElem?_map] at hi
  obtain ⟨a,ha,rfl⟩:=Option.map_eq_some_iff.mp hi
  obtain ⟨e,he,_,_,_,E⟩:=A0.each.at ha
  have E2:=E.same s2
  have il:i < es.length:=(List.getElem?_eq_some_iff.mp he).1
  refine ⟨a.1,_,rfl,SqT.of E2.t,rfl,_,_,rfl,_,_,rfl,rfl,?_⟩
  refine ⟨_,rfl,_,rfl,a.2,_,rfl,.inl (SqL.of E2.l),fun pl hpl=>?_⟩
  have sl:=iQ.new hpl (.lst (e.2.map Prod.fst))
  have hpl3:L2.upd H2 pl (.lst (e.2.map Prod.fst)) pl=some (.lst (e.2.map Prod.fst)):=dQ
  have E3:=E2.same sl
  have hD3:=sl _ _ h2
  have pD:pl≠D:=fun z=>by rw [z,h2] at hpl; cases hpl
  have hplH:H pl=none:=iQ.free s2 hpl
  have A3:tX (fun (a:Addr × Addr) e'=>H a.1=none/\H a.2=none/\a.2≠D/\jJ (L2.upd H2 pl (.lst (e.2.map Prod.fst))) a.1 a.2 e') as' (es.take i):=A2.mono fun _ _ h=>⟨h.1,h.2.1,h.2.2.1,h.2.2.2.same sl⟩
  have s3:=s2.trans sl
  generalize L2.upd H2 pl (.lst (e.2.map Prod.fst))=H3 at *
  refine ⟨(by show 2<=sizeLine; decide),fun pt hpt=>?_⟩
  have st:=iQ.new hpt (.tup [.str e.1,.ref pl])
  have hpt4:L2.upd H3 pt (.tup [.str e.1,.ref pl]) pt=some (.tup [.str e.1,.ref pl]):=dQ
  have hptH:H pt=none:=iQ.free s3 hpt
  have E4:jJ (L2.upd H3 pt (.tup [.str e.1,.ref pl])) pt pl e:=⟨hpt4,st _ _ hpl3,fun x hx=>((E3.s x hx).same st)⟩
  have A4:tX (fun (a:Addr × Addr) e'=>H a.1=none/\H a.2=none/\a.2≠D/\jJ (L2.upd H3 pt (.tup [.str e.1,.ref pl])) a.1 a.2 e') as' (es.take i):=A3.mono fun _ _ h=>⟨h.1,h.2.1,h.2.2.1,h.2.2.2.same st⟩
  have hD4:=st _ _ hD3
  have s4:=s3.trans st
  generalize L2.upd H3 pt (.tup [.str e.1,.ref pl])=H4 at *
  refine ⟨hD4,eZ (by rw [List.length_map]; omega),⟨_,_,rfl⟩,as'++[(pt,pl)],by rw [List.map_append]; rfl,by rw [List.length_append,al]; rfl,dQ,fun c o e=>by rw [kQ (jQ e hD)]; exact s4 _ _ e,?_⟩
  rw [List.take_add_one,he]
  refine pJ (A4.mono fun _ _ h=>⟨h.1,h.2.1,h.2.2.1,h.2.2.2.put hD4 h.2.2.1⟩) ⟨rfl,fun k x y hx hy=>?_⟩
  match k,hx,hy with
  | 0,rfl,rfl=>exact ⟨hptH,hplH,pD,E4.put hD4 pD⟩
 rintro ys σ H2 ⟨_,as',rfl,al,h2,s2,A2⟩
 rw [List.length_map] at al A2
 rw [hl,List.take_length] at A2
 exact q D as' H2 s2 ⟨hD,h2,A2⟩
end
def Bs (vl:List (List Int)) (n:Nat) (S:List Int->Prop):Prop:=∀ j,n.testBit j=true ↔ ∃ v,vl.reverse[j]?=some v/\S v
theorem b9Z (vl:List (List Int)):Bs vl (bw (List.replicate vl.length true)) (fun _=>True):=fun j=>by
 have:=x9Q (List.replicate vl.length true) j
 rw [List.reverse_replicate] at this
 rw [this,List.getD_eq_getElem?_getD,List.getElem?_replicate]
 by_cases h:j < vl.length
 ·rw [if_pos h]
  exact ⟨fun _=>⟨_,List.getElem?_eq_getElem (by rw [List.length_reverse]; exact h),trivial⟩,fun _=>rfl⟩
 ·rw [if_neg h]
  refine ⟨(fun z=>nomatch z),fun hh=>?_⟩
  obtain ⟨v,hv,_⟩:=hh
  have:=(List.getElem?_eq_some_iff.mp hv).1
  rw [List.length_reverse] at this
  exact absurd this h
theorem Bs.and {vl:List (List Int)} {n:Nat} {S:List Int->Prop} (h:Bs vl n S) (s:Say):Bs vl (n &&& rowOf vl s) (fun v=>S v/\s.so v=true):=fun j=>by
 rw [Nat.testBit_and,Bool.and_eq_true,h j,o6Q]
 constructor
 ·rintro ⟨⟨v,h1,h2⟩,u,h3,h4⟩
  rw [h1] at h3
  cases h3
  exact ⟨v,h1,h2,h4⟩
 ·rintro ⟨v,h1,h2,h4⟩
  exact ⟨⟨v,h1,h2⟩,v,h1,h4⟩
theorem Bs.congr {vl:List (List Int)} {n:Nat} {S T:List Int->Prop} (a:Bs vl n S) (h:∀ v,S v ↔ T v):Bs vl n T:=fun j=>by
 rw [a j]
 exact ⟨fun ⟨v,e,s⟩=>⟨v,e,(h v).mp s⟩,fun ⟨v,e,s⟩=>⟨v,e,(h v).mpr s⟩⟩
def q5Q (C:Addr):Sp:=fun vs H Q _=>∃ (a dx pe pf pn pk pl:Addr) (full:Nat) (uv:List V) (vl:List (List Int)) (kv:List (List Key × V)) (many:Nat) (xs:List (V × Say)),vs=[.ref a,.ref pl]/\iW H C a dx pe (full:Nat) pf pn pk uv vl kv/\Bs vl full (fun _=>True)/\H pl=some (.lst (xs.map Prod.fst))/\(∀ x∈xs,mV H x.1 x.2/\x.2.In many)/\vl.length<=400/\Vok many vl/\kv.length + xs.length<=90000 /\
 ∀ (H':Hp) (kv':List (List Key × V)) (n:Nat),But pk H H'->iW H' C a dx pe (full:Nat) pf pn pk uv vl kv'->kv'.length<=kv.length + xs.length->Bs vl n (fun v=>∀ x∈xs,x.2.so v=true)->Q (.int (n:Nat)) H'
def sumL (es:List Ent):Nat:=(es.map fun e=>e.2.length).sum
section
variable {C:Addr}
theorem iW.nk {H:Hp} {a dx pe:Addr} {full:Int} {pf pn pk:Addr} {uv:List V} {vl:List (List Int)} {kv:List (List Key × V)} (h:iW H C a dx pe full pf pn pk uv vl kv) {b:Addr} {o:HO} (hb:H b=some o) (ho:∀ x,o ≠ .dT x):b≠pk:=fun z=>by rw [z,h.k] at hb; cases hb; exact ho _ rfl
theorem mV.butK {H H':Hp} {a dx pe:Addr} {full:Int} {pf pn pk:Addr} {uv:List V} {vl:List (List Int)} {kv:List (List Key × V)} (M:iW H C a dx pe full pf pn pk uv vl kv) (b:But pk H H') {v:V} {o:Say} (h:mV H v o):mV H' v o:=by
 obtain ⟨p,e,hp⟩:=h
 exact ⟨p,e,b _ _ (M.nk hp (fun _ z=>nomatch z)) hp⟩
theorem fO:yQ ["self","some","bits","saying"] ["self","some"] (gQ uW):=(by wtm_at "f")
theorem a0Z (h:HasM K C "so_of_all" "Checker.so_of_all" uW ["self","some"]) (T:TxC K mg C) (cS:MCal P w K mg base 4 C "so_of" ["self","saying"] (z9Q C)):MCal P w K mg base 5 C "so_of_all" ["self","some"] (q5Q C):=by
 refine h.cal fO (fun vs H Q E h=>?_) (fun f cdv A outer s H vs Q E hr h=>?_)
 ·obtain ⟨_,_,_,_,_,_,_,_,_,_,_,_,_,rfl,_⟩:=h
  rfl
 obtain ⟨a,dx,pe,pf,pn,pk,pl,full,uv,vl,kv,many,xs,rfl,M,fu,hpl,xo,l400,vok,kl,q⟩:=h
 refine ⟨_,(bQ (qQ (i:=2) fO.nd rfl (Or.inl rfl) (fU (pv 0) rfl))
  (bQ (uZ PassesOwn.never rfl (xZ (pv 1)) (uQ (i:=3) fO.nd rfl (Or.inl rfl)) (fQ (qQ (i:=2) fO.nd rfl (Or.inl rfl) (lQ w8Q (pv 2) (pK cS T.cl hr (pv 0) (aQ (pv 3) eQ))))))
  (fQ (oQ (pv 2))))),?_⟩
 refine ⟨_,rfl,a,C,dx,_,_,rfl,M.i,T.cl,T.nF,z8Z _ _ _ _ _,?_⟩
 refine ⟨_,rfl,pl,rfl,⟨_,SqL.of hpl⟩,kX (K:=K) (a:=pl) (xs:=xs.map Prod.fst) (fun i σ H'=>∃ (n:Nat) (kv':List (List Key × V)) (c3:Option V),σ=[some (.ref a),some (.ref pl),some (.int (n:Nat)),c3]/\But pk H H'/\iW H' C a dx pe (full:Nat) pf pn pk uv vl kv'/\kv'.length<=kv.length + i/\Bs vl n (fun v=>∀ x∈xs.take i,x.2.so v=true))
  ⟨full,kv,none,rfl,But.refl _ _,M,Nat.le_refl _,fu.congr fun v=>⟨(fun _ x hx=>nomatch hx),fun _=>trivial⟩⟩ (fun i σ H' _ hh=>by obtain ⟨_,_,_,_,b,_⟩:=hh; exact SqL.of (b _ _ (M.nk hpl (fun _ z=>nomatch z)) hpl)) ?_ ?_⟩
 ·rintro i y σ H1 hi ⟨n,kv1,c3,rfl,b1,M1,k1,B1⟩
  rw [List.getElem?_map] at hi
  obtain ⟨x,hx,rfl⟩:=Option.map_eq_some_iff.mp hi
  have il:i < xs.length:=(List.getElem?_eq_some_iff.mp hx).1
  obtain ⟨hs,hin⟩:=xo x (List.mem_of_getElem? hx)
  obtain ⟨ps,e,hps⟩:=hs.butK M b1
  rw [e]
  refine ⟨_,rfl,_,rfl,a,dx,_,rfl,M1.i,a4Q _ _ _ _ _ (by decide +kernel),_,rfl,a,dx,pe,pf,pn,pk,ps,full,uv,vl,kv1,many,x.2,rfl,M1,hps,l400,hin,vok,by omega,fun H2 kv2 b2 M2 k2=>?_⟩
  refine ⟨_,_,rfl,rfl,?_⟩
  refine ⟨n &&& rowOf vl x.2,kv2,some (.ref ps),by show [some (V.ref a),some (V.ref pl),some (V.int (Builtin.bitAnd (n:Int) (rowOf vl x.2:Nat))),some (V.ref ps)]=_; rw [m6Q],b1.trans b2,M2,by omega,(B1.and x.2).congr fun v=>?_⟩
  rw [List.take_add_one,hx]
  constructor
  ·rintro ⟨h1,h2⟩ y hy
   rcases List.mem_append.mp hy with h3 | h3
   ·exact h1 y h3
   ·rw [List.mem_singleton.mp h3]; exact h2
  ·intro h
   exact ⟨fun y hy=>h y (List.mem_append_left _ hy),h x (List.mem_append_right _ (List.mem_singleton.mpr rfl))⟩
 ·rintro σ H1 ⟨n,kv1,c3,rfl,b1,M1,k1,B1⟩
  rw [List.length_map] at k1 B1
  rw [List.take_length] at B1
  exact ⟨_,rfl,q H1 kv1 n b1 M1 k1 B1⟩
end
abbrev Nx:=Str->List Int->Str->List Int->Prop
def nxE (H:Hp) (N:List Str) (vl:List (List Int)) (Cn:Nx) (kn:List (Key × V)) (z:Str):Prop:=∃ (l:Addr) (us:List V),vZ kn (Sum.inr z)=some (.ref l)/\H l=some (.lst us)/\tX (fun u v=>∃ c kv g,u = .ref c/\H c=some (.dK kv)/\Cd N kv g/\Bt vl g (Cn z v)) us vl.reverse
def Come (vl:List (List Int)) (S0:Str->List Int->Prop) (Cn:Nx) (es:List Ent) (z:Str) (u:List Int):Prop:=S0 z u\/∃ e∈es,∃ v∈vl,(∀ x∈e.2,x.2.so v=true)/\Cn e.1 v z u
def k8Q (C:Addr):Sp:=fun vs H Q _=>∃ (a dx pe pf pn pk pp:Addr) (full:Nat) (uv:List V) (vl:List (List Int)) (kv:List (List Key × V)) (many:Nat) (N:List Str) (kf kn:List (Key × V)) (f0:Str->Nat) (S0:Str->List Int->Prop) (Cn:Nx) (G:Hp) (as:List (Addr × Addr)) (es:List Ent),vs=[.ref a,.ref pp]/\iW H C a dx pe (full:Nat) pf pn pk uv vl kv/\Bs vl full (fun _=>True)/\N.length<=60/\H pf=some (.dK kf)/\Cd N kf f0/\Bt vl f0 S0/\H pn=some (.dK kn)/\(∀ e∈es,nxE H N vl Cn kn e.1)/\kZ G H pp as es/\(∀ e∈es,∀ x∈e.2,x.2.In many)/\vl.length<=400/\Vok many vl/\kv.length + sumL es<=90000 /\
 ∀ (c:Addr) (H':Hp) (kv':List (List Key × V)) (kc:List (Key × V)) (f:Str->Nat),H c=none->But pk H H'->H' c=some (.dK kc)->Cd N kc f->Bt vl f (Come vl S0 Cn es)->iW H' C a dx pe (full:Nat) pf pn pk uv vl kv'->kv'.length<=kv.length + sumL es->Q (.ref c) H'
section
variable {C:Addr}
theorem nxE.butK {H H':Hp} {a dx pe:Addr} {full:Int} {pf pn pk:Addr} {uv:List V} {vl:List (List Int)} {kv:List (List Key × V)} (M:iW H C a dx pe full pf pn pk uv vl kv) (b:But pk H H') {N:List Str} {Cn:Nx} {vl':List (List Int)} {kn:List (Key × V)} {z:Str} (h:nxE H N vl' Cn kn z):nxE H' N vl' Cn kn z:=by
 obtain ⟨l,us,e,hl,hu⟩:=h
 exact ⟨l,us,e,b _ _ (M.nk hl (fun _ z=>nomatch z)) hl,hu.mono fun _ _ ⟨c,kv,g,ec,hc,r⟩=>⟨c,kv,g,ec,b _ _ (M.nk hc (fun _ z=>nomatch z)) hc,r⟩⟩
theorem iW.of {H H':Hp} {a dx pe:Addr} {full:Int} {pf pn pk:Addr} {uv:List V} {vl:List (List Int)} {kv kv':List (List Key × V)} (M:iW H C a dx pe full pf pn pk uv vl kv) (b:But pk H H') (hk:H' pk=some (.dT kv')) (n:Kn vl kv'):iW H' C a dx pe full pf pn pk uv vl kv':=
 ⟨b _ _ (M.nk M.i (fun _ z=>nomatch z)) M.i,⟨b _ _ (M.nk M.v.at_ (fun _ z=>nomatch z)) M.v.at_,M.v.each.mono fun _ _ ⟨p,e,hp⟩=>⟨p,e,b _ _ (M.nk hp (fun _ z=>nomatch z)) hp⟩⟩,hk,n⟩
theorem jJ.butK {H H':Hp} {a dx pe:Addr} {full:Int} {pf pn pk:Addr} {uv:List V} {vl:List (List Int)} {kv:List (List Key × V)} (M:iW H C a dx pe full pf pn pk uv vl kv) (b:But pk H H') {p pl:Addr} {e:Ent} (h:jJ H p pl e):jJ H' p pl e:=
 ⟨b _ _ (M.nk h.t (fun _ z=>nomatch z)) h.t,b _ _ (M.nk h.l (fun _ z=>nomatch z)) h.l,fun x hx=>(h.s x hx).butK M b⟩
theorem kZ.butK {G H H':Hp} {a dx pe:Addr} {full:Int} {pf pn pk:Addr} {uv:List V} {vl:List (List Int)} {kv:List (List Key × V)} (M:iW H C a dx pe full pf pn pk uv vl kv) (b:But pk H H') {pp:Addr} {as:List (Addr × Addr)} {es:List Ent} (h:kZ G H pp as es):kZ G H' pp as es:=
 ⟨h.fr,b _ _ (M.nk h.at_ (fun _ z=>nomatch z)) h.at_,h.each.mono fun _ _ ⟨x,y,z,d⟩=>⟨x,y,z,d.butK M b⟩⟩
theorem r5Q {es:List Ent} {e:Ent} {i:Nat} (h:es[i]?=some e):sumL (es.take (i + 1))=sumL (es.take i) + e.2.length:=by
 unfold sumL
 rw [List.take_add_one,h,List.map_append,List.sum_append]
 simp
theorem i1Z (es:List Ent) (i:Nat):sumL (es.take i)<=sumL es:=by
 unfold sumL
 conv=>rhs; rw [<-List.take_append_drop i es,List.map_append,List.sum_append]
 exact Nat.le_add_right _ _
theorem iY:yQ ["self","paper","come","mark","some","let_by","behind"] ["self","paper"] (gQ cY):=(by wtm_at "f")
theorem j3Z (h:HasM K C "come_to" "Checker.come_to" cY ["self","paper"]) (B:Blt mg) (T:TxC K mg C) (cS:MCal P w K mg base 5 C "so_of_all" ["self","some"] (q5Q C)) (cP:∀ N,Cal P w K mg base 1 "put_together" ["come","more"] (b1Z N)):MCal P w K mg base 6 C "come_to" ["self","paper"] (k8Q C):=by
 refine h.cal iY (fun vs H Q E h=>?_) (fun f cdv A outer s H vs Q E hr h=>?_)
 ·obtain ⟨_,_,_,_,_,_,_,_,_,_,_,_,_,_,_,_,_,_,_,_,_,rfl,_⟩:=h
  rfl
 obtain ⟨a,dx,pe,pf,pn,pk,pp,full,uv,vl,kv,many,N,kf,kn,f0,S0,Cn,G,as,es,rfl,M,fu,n60,hpf,C0,B0,hpn,nx,PA,inn,l400,vok,kl,q⟩:=h
 have hu:=uY hr
 have hr1:sZ 1 _:=hr.mono (by decide)
 refine ⟨_,(bQ (qQ (i:=2) iY.nd rfl (Or.inl rfl) (tV c6Q rfl B.dict v0Z (aQ (fU (pv 0) rfl) eQ)))
  (bQ (uZ PassesOwn.never rfl (xZ (pv 1)) (pgt K 2 rfl (jZ (uQ (i:=3) iY.nd rfl (Or.inl rfl)) (jZ (uQ (i:=4) iY.nd rfl (Or.inl rfl)) dJ)))
   (bQ (qQ (i:=5) iY.nd rfl (Or.inl rfl) (pK cS T.cl hr (pv 0) (aQ (pv 4) eQ)))
   (fQ (uZ PassesOwn.never rfl (xZ (aV hu (fU (pv 0) rfl) (pv 3) (fun _ _=>rfl))) (uQ (i:=6) iY.nd rfl (Or.inl rfl))
    (bQ (cZ (rQ aZ (lQ w8Q (pv 5) cQ) cQ (nQ _)) (fQ (lX (wQ (cP N) hr1 rfl (aQ (pv 2) (aQ (pv 6) eQ))))) sQ)
    (fQ (qQ (i:=5) iY.nd rfl (Or.inl rfl) (lQ r0X (pv 5) cQ))))))))
  (fQ (oQ (pv 2))))),?_⟩
 have kf60:=C0.len
 obtain ⟨kfk,kfe,kfn,_⟩:=C0.ex
 refine ⟨_,rfl,a,C,dx,_,_,rfl,M.i,T.cl,T.n1,n6Z _ _ _ _ _,pf,kf,rfl,.inl hpf,fun c hc=>?_⟩
 have s1:=iQ.new hc (.dK kf)
 have c1:upd H c (.dK kf) c=some (.dK kf):=dQ
 have M1:=M.same s1
 generalize upd H c (.dK kf)=H1 at *
 have hl:=PA.each.1
 have cpk:c≠pk:=fun z=>by rw [z,M.k] at hc; cases hc
 refine ⟨_,rfl,pp,rfl,⟨_,SqL.of (s1 _ _ PA.at_)⟩,kX (K:=K) (a:=pp) (xs:=as.map fun a=>V.ref a.1) (fun i σ H'=>∃ (kv':List (List Key × V)) (kc:List (Key × V)) (f:Str->Nat),(∃ c3 c4 c5 c6:Option V,σ=[some (.ref a),some (.ref pp),some (.ref c),c3,c4,c5,c6])/\But pk H H'/\H' c=some (.dK kc)/\Cd N kc f/\Bt vl f (Come vl S0 Cn (es.take i))/\iW H' C a dx pe (full:Nat) pf pn pk uv vl kv'/\kv'.length<=kv.length + sumL (es.take i))
  ⟨kv,kf,f0,⟨none,none,none,none,rfl⟩,But.of s1,c1,C0,B0.congr fun z u=>⟨.inl,fun h=>h.elim id fun ⟨e,he,_⟩=>nomatch he⟩,M1,Nat.le_add_right _ _⟩ (fun i σ H' _ hh=>by obtain ⟨_,_,_,_,b,_⟩:=hh; exact SqL.of (b _ _ (M.nk PA.at_ (fun _ z=>nomatch z)) PA.at_)) ?_ ?_⟩
 ·rintro i y σ H2 hi ⟨kv2,kc2,f2,⟨c3,c4,c5,c6,rfl⟩,b2,c2,C2,B2,M2,k2⟩
  rw [List.getElem?_map] at hi
  obtain ⟨ae,ha,rfl⟩:=Option.map_eq_some_iff.mp hi
  obtain ⟨e,he,_,_,_,E0⟩:=PA.each.at ha
  have E2:=E0.butK M b2
  have hem:=List.mem_of_getElem? he
  have hsm:=r5Q he
  have hsl:=i1Z es (i + 1)
  refine ⟨ae.1,_,rfl,SqT.of E2.t,rfl,_,_,rfl,_,_,rfl,rfl,?_⟩
  refine ⟨_,rfl,a,dx,_,rfl,M2.i,a4Q _ _ _ _ _ (by decide +kernel),_,rfl,a,dx,pe,pf,pn,pk,ae.2,full,uv,vl,kv2,many,e.2,rfl,M2,fu,E2.l,fun x hx=>⟨E2.s x hx,inn e hem x hx⟩,l400,vok,by omega,fun H3 kv3 n b3 M3 k3 Bn=>?_⟩
  have b03:=b2.trans b3
  have c3':=b3 _ _ cpk c2
  obtain ⟨l,us,el,hl0,hus⟩:=nx e hem
  have hl3:=b03 _ _ (M.nk hl0 (fun _ z=>nomatch z)) hl0
  have lc:l≠c:=jQ hl0 hc
  refine ⟨_,rfl,a,C,dx,_,_,rfl,M3.i,T.cl,T.nN,o6Z _ _ _ _ _,_,rfl,pn,_,rfl,?_,l,rfl,⟨_,SqL.of hl3⟩,kX (K:=K) (a:=l) (xs:=us) (fun j σ H'=>∃ (kc:List (Key × V)) (f:Str->Nat),(∃ c6:Option V,σ=[some (.ref a),some (.ref pp),some (.ref c),some (.str e.1),some (.ref ae.2),some (.int ((n / 2 ^ j:Nat):Int)),c6])/\But c H3 H'/\H' c=some (.dK kc)/\Cd N kc f/\Bt vl f (fun z u=>Come vl S0 Cn (es.take i) z u\/∃ v∈vl.reverse.take j,(∀ x∈e.2,x.2.so v=true)/\Cn e.1 v z u))
   ⟨kc2,f2,⟨_,by rw [Nat.pow_zero,Nat.div_one]; rfl⟩,But.refl _ _,c3',C2,B2.congr fun z u=>⟨.inl,fun h=>h.elim id fun ⟨v,hv,_⟩=>nomatch hv⟩⟩ (fun j σ H' _ hh=>by obtain ⟨_,_,_,b',_⟩:=hh; exact SqL.of (b' _ _ lc hl3)) ?_ ?_⟩
  ·have:=aY.k (k:=Sum.inr e.1) (b03 _ _ (M.nk hpn (fun _ z=>nomatch z)) hpn)
   rw [el] at this
   exact this
  ·rintro j u σ H4 hj ⟨kc4,f4,⟨c6,rfl⟩,b4,c4',C4,B4⟩
   obtain ⟨v,hv,cu,kcu,g,rfl,hcu,Cg,Bg⟩:=hus.at hj
   have ncu:cu≠c:=jQ hcu hc
   have hcu4:=b4 _ _ ncu (b03 _ _ (M.nk hcu (fun _ z=>nomatch z)) hcu)
   have ediv:(((n / 2 ^ j:Nat):Int) / 2 ^ (1:Int).toNat)=((n / 2 ^ (j + 1):Nat):Int):=by
    rw [Nat.pow_succ,<-Nat.div_div_eq_div_mul]
    rfl
   have ebit:decide (V.int (Builtin.bitAnd ((n / 2 ^ j:Nat):Int) 1)=V.int 1)=n.testBit j:=by
    have e1:Builtin.bitAnd ((n / 2 ^ j:Nat):Int) 1=((n / 2 ^ j &&& 1:Nat):Int):=m6Q (n / 2 ^ j) 1
    rw [e1,Nat.testBit_eq_decide_div_mod_eq,Nat.and_one_is_mod]
    exact decide_eq_decide.mpr ⟨fun z=>by have:=V.int.inj z; omega,fun z=>by rw [z]; rfl⟩
   have mem1:∀ {y:List Int},y∈vl.reverse.take (j + 1) ↔ y∈vl.reverse.take j\/y=v:=fun {y}=>by
    rw [List.take_add_one,hv,List.mem_append]
    exact ⟨fun h=>h.elim .inl (fun h=>.inr (List.mem_singleton.mp h)),fun h=>h.elim .inl (fun h=>.inr (List.mem_singleton.mpr h))⟩
   refine ⟨_,rfl,_,_,rfl,rfl,rfl,_,rfl,?_⟩
   cases hb:n.testBit j with
   | true =>
    obtain ⟨v',hv',hso⟩:=(Bn j).mp hb
    rw [hv] at hv'
    cases hv'
    refine rV (ebit.trans hb) ⟨_,rfl,_,rfl,c,cu,kc4,kcu,f4,g,rfl,ncu.symm,c4',C4,hcu4,Cg,n60,fun H5 kc5 b5 c5 C5=>⟨_,rfl,_,_,rfl,rfl,Int.le_of_lt Int.one_pos,kc5,_,⟨_,by rw [<-ediv]; rfl⟩,b4.trans b5,c5,C5,(B4.or Bg).congr fun z u=>?_⟩⟩
    constructor
    ·rintro ((h1 | ⟨y,hy,h2⟩) | h3)
     ·exact .inl h1
     ·exact .inr ⟨y,mem1.mpr (.inl hy),h2⟩
     ·exact .inr ⟨v,mem1.mpr (.inr rfl),hso,h3⟩
    ·rintro (h1 | ⟨y,hy,h2,h3⟩)
     ·exact .inl (.inl h1)
     ·rcases mem1.mp hy with hy | rfl
      ·exact .inl (.inr ⟨y,hy,h2,h3⟩)
      ·exact .inr h3
   | false =>
    refine nJ (ebit.trans hb) ⟨_,rfl,_,_,rfl,rfl,Int.le_of_lt Int.one_pos,kc4,f4,⟨_,by rw [<-ediv]; rfl⟩,b4,c4',C4,B4.congr fun z u=>?_⟩
    constructor
    ·rintro (h1 | ⟨y,hy,h2⟩)
     ·exact .inl h1
     ·exact .inr ⟨y,mem1.mpr (.inl hy),h2⟩
    ·rintro (h1 | ⟨y,hy,h2,h3⟩)
     ·exact .inl h1
     ·rcases mem1.mp hy with hy | rfl
      ·exact .inr ⟨y,hy,h2,h3⟩
      ·have:=(Bn j).mpr ⟨y,hv,h2⟩
       rw [hb] at this
       cases this
  ·rintro σ H4 ⟨kc4,f4,⟨c6,rfl⟩,b4,c4',C4,B4⟩
   have bk:But pk H H4:=fun b o nb e=>b4 b o (jQ e hc) (b03 _ _ nb e)
   have ul:us.length=vl.reverse.length:=hus.1
   rw [ul,List.take_length] at B4
   refine ⟨kv3,kc4,f4,⟨_,_,_,_,rfl⟩,bk,c4',C4,B4.congr fun z u=>?_,M.of bk (b4 _ _ cpk.symm M3.k) M3.n,by omega⟩
   unfold Come
   rw [List.take_add_one,he]
   constructor
   ·rintro ((h1 | ⟨e',h1,h2⟩) | ⟨v,hv,h2⟩)
    ·exact .inl h1
    ·exact .inr ⟨e',List.mem_append_left _ h1,h2⟩
    ·exact .inr ⟨e,List.mem_append_right _ (List.mem_singleton.mpr rfl),v,List.mem_reverse.mp hv,h2⟩
   ·rintro (h1 | ⟨e',h1,v,hv,h2⟩)
    ·exact .inl (.inl h1)
    ·rcases List.mem_append.mp h1 with h1 | h1
     ·exact .inl (.inr ⟨e',h1,v,hv,h2⟩)
     ·rw [List.mem_singleton.mp h1] at h2
      exact .inr ⟨v,List.mem_reverse.mpr hv,h2⟩
 ·rintro σ H2 ⟨kv2,kc2,f2,⟨c3,c4,c5,c6,rfl⟩,b2,c2,C2,B2,M2,k2⟩
  rw [List.length_map,hl,List.take_length] at k2 B2
  exact ⟨_,rfl,q c H2 kv2 kc2 f2 hc b2 c2 C2 B2 M2 k2⟩
end
def kept (vl:List (List Int)) (hN:Str->Nat) (e:Ent):Ent:=(e.1,e.2.filter fun x=>decide (hN e.1 &&& rowOf vl x.2=hN e.1))
noncomputable def unb (vl:List (List Int)) (S0:Str->List Int->Prop) (Cn:Nx) (es:List Ent):List Ent:=es.map fun e=>(e.1,e.2.filter fun x=>@decide (∀ v∈vl,Come vl S0 Cn es e.1 v->x.2.so v=true) (Classical.propDecidable _))
theorem q6Z {vl:List (List Int)} {S0:Str->List Int->Prop} {Cn:Nx} {es:List Ent} {f:Str->Nat} (B:Bt vl f (Come vl S0 Cn es)):es.map (kept vl f)=unb vl S0 Cn es:=by
 refine List.map_congr_left fun e _=>?_
 unfold kept
 congr 1
 refine List.filter_congr fun x _=>?_
 rw [Bool.eq_iff_iff,decide_eq_true_iff,@decide_eq_true_iff _ (Classical.propDecidable _)]
 exact B.keep e.1 x.2
def vO (C:Addr):Sp:=fun vs H Q _=>∃ (a dx pe pf pn pk pp:Addr) (full:Nat) (uv:List V) (vl:List (List Int)) (kv:List (List Key × V)) (many:Nat) (N:List Str) (kf kn:List (Key × V)) (f0:Str->Nat) (S0:Str->List Int->Prop) (Cn:Nx) (G:Hp) (as:List (Addr × Addr)) (es:List Ent),vs=[.ref a,.ref pp]/\iW H C a dx pe (full:Nat) pf pn pk uv vl kv/\Bs vl full (fun _=>True)/\N.length<=60/\H pf=some (.dK kf)/\Cd N kf f0/\Bt vl f0 S0/\H pn=some (.dK kn)/\(∀ e∈es,nxE H N vl Cn kn e.1)/\kZ G H pp as es/\(∀ e∈es,e.2.length<=100/\∀ x∈e.2,x.2.In many)/\es.length<=60/\vl.length<=400/\Vok many vl/\kv.length + 2 * sumL es<=90000 /\
 ∀ (p:Addr) (as':List (Addr × Addr)) (H':Hp) (kv':List (List Key × V)),But pk H H'->kZ H H' p as' (unb vl S0 Cn es)->iW H' C a dx pe (full:Nat) pf pn pk uv vl kv'->kv'.length<=kv.length + 2 * sumL es->Q (.ref p) H'
section
variable {C:Addr}
theorem s5Q {α:Type} {f:α->Bool} {xs:List α} {x:α} {j:Nat} (h:xs[j]?=some x):(xs.take (j + 1)).filter f=(xs.take j).filter f++if f x=true then [x] else []:=by
 rw [List.take_add_one,h,List.filter_append]
 show _++List.filter f [x]=_
 rw [List.filter_cons,List.filter_nil]
theorem yW:yQ ["self","paper","come","told","mark","some","here"] ["self","paper"] (gQ oJ):=(by wtm_at "f")
theorem l8Q (h:HasM K C "unbroken" "Checker.unbroken" oJ ["self","paper"]) (T:TxC K mg C) (cC:MCal P w K mg base 6 C "come_to" ["self","paper"] (k8Q C)) (cS:MCal P w K mg base 4 C "so_of" ["self","saying"] (z9Q C)):MCal P w K mg base 7 C "unbroken" ["self","paper"] (vO C):=by
 refine h.cal yW (fun vs H Q E h=>?_) (fun f cdv A outer s H vs Q E hr h=>?_)
 ·obtain ⟨_,_,_,_,_,_,_,_,_,_,_,_,_,_,_,_,_,_,_,_,_,rfl,_⟩:=h
  rfl
 obtain ⟨a,dx,pe,pf,pn,pk,pp,full,uv,vl,kv,many,N,kf,kn,f0,S0,Cn,G,as,es,rfl,M,fu,n60,hpf,C0,B0,hpn,nx,PA,eo,l60,l400,vok,kl,q⟩:=h
 have hu:=uY hr
 have hr4:sZ 4 _:=hr.mono (by decide)
 refine ⟨_,(bQ (qQ (i:=2) yW.nd rfl (Or.inl rfl) (pK cC T.cl hr (pv 0) (aQ (pv 1) eQ)))
  (bQ (qQ (i:=3) yW.nd rfl (Or.inl rfl) (jX eQ))
  (bQ (uZ PassesOwn.never rfl (xZ (pv 1)) (pgt K 2 rfl (jZ (uQ (i:=4) yW.nd rfl (Or.inl rfl)) (jZ (uQ (i:=5) yW.nd rfl (Or.inl rfl)) dJ)))
   (bQ (qQ (i:=6) yW.nd rfl (Or.inr rfl) (n7Q hu (pv 2) (pv 4) cQ ⟨rfl,rfl,rfl,rfl⟩))
   (fQ (lX (iV PySem.F.plainAttrs_list PySem.F.slot_list_append PySem.F.type_list_append iX (pv 3) (aQ (iZ (aQ (pv 4) (aQ (nY (gQ oJ) ["self","paper","come","told","mark","some","here"] (N:=["saying","here","self"]) (ix:=[none,some 6,some 0]) rfl (by wtm_at "g") (xZ (pv 5)) (fun _ _ _ _=>uQ (i:=0) (show (["saying","here","self"]:List Str).Nodup by decide +kernel) rfl (Or.inl rfl)) (fun _ _ _ _=>(e2Q (rQ aZ (lQ w8Q (pv 1) (pK cS T.cl hr4 (pv 2) (aQ (pv 0) eQ))) (pv 1) (nQ _)))) (fun _ _ _ _=>(pv 0))) eQ))) eQ))))))
  (fQ (oQ (pv 3)))))),?_⟩
 refine ⟨_,rfl,a,dx,_,rfl,M.i,a4Q _ _ _ _ _ (by decide +kernel),_,rfl,a,dx,pe,pf,pn,pk,pp,full,uv,vl,kv,many,N,kf,kn,f0,S0,Cn,G,as,es,rfl,M,fu,n60,hpf,C0,B0,hpn,nx,PA,fun e he=>(eo e he).2,l400,vok,by omega,fun c H1 kv1 kc hN hc b1 c1 Cc Bc M1 k1=>?_⟩
 refine ⟨(by show 0<=sizeLine; decide),fun D hD=>?_⟩
 have sD:=iQ.new hD (.lst [])
 have D2:upd H1 D (.lst []) D=some (.lst []):=dQ
 have M2':=M1.same sD
 have Dpk:D≠pk:=fun z=>by rw [z,M1.k] at hD; cases hD
 have DH:H D=none:=b1.none Dpk hD
 have c2:=sD _ _ c1
 have b2:=b1.trans (But.of sD)
 generalize upd H1 D (.lst [])=H2 at *
 have hl:=PA.each.1
 have cpk:c≠pk:=fun z=>by rw [z,M1.k] at c1; cases c1
 refine ⟨_,rfl,pp,rfl,⟨_,SqL.of (b2 _ _ (M.nk PA.at_ (fun _ z=>nomatch z)) PA.at_)⟩,kX (K:=K) (a:=pp) (xs:=as.map fun a=>V.ref a.1) (fun i σ H'=>∃ (kv':List (List Key × V)) (as':List (Addr × Addr)),(∃ c4 c5 c6:Option V,σ=[some (.ref a),some (.ref pp),some (.ref c),some (.ref D),c4,c5,c6])/\But pk H H'/\H' c=some (.dK kc)/\H' D=some (.lst (as'.map fun a=>V.ref a.1))/\iW H' C a dx pe (full:Nat) pf pn pk uv vl kv'/\kv'.length<=kv.length + sumL es + sumL (es.take i)/\tX (fun (a:Addr × Addr) e=>H a.1=none/\H a.2=none/\a.2≠D/\jJ H' a.1 a.2 e) as' ((es.take i).map (kept vl hN)))
  ⟨kv1,[],⟨none,none,none,rfl⟩,b2,c2,D2,M2',by omega,⟨rfl,fun i x y h=>nomatch h⟩⟩ (fun i σ H' _ hh=>by obtain ⟨_,_,_,b,_⟩:=hh; exact SqL.of (b _ _ (M.nk PA.at_ (fun _ z=>nomatch z)) PA.at_)) ?_ ?_⟩
 ·rintro i y σ H3 hi ⟨kv3,as3,⟨c4,c5,c6,rfl⟩,b3,c3,D3,M3,k3,A3⟩
  rw [List.getElem?_map] at hi
  obtain ⟨ae,ha,rfl⟩:=Option.map_eq_some_iff.mp hi
  obtain ⟨e,he,_,_,_,E0⟩:=PA.each.at ha
  have E3:=E0.butK M b3
  have hem:=List.mem_of_getElem? he
  have hsm:=r5Q he
  have hsl:=i1Z es (i + 1)
  have il:i < es.length:=(List.getElem?_eq_some_iff.mp he).1
  obtain ⟨e100,ein⟩:=eo e hem
  have ehere:=Cc.get e.1
  refine ⟨ae.1,_,rfl,SqT.of E3.t,rfl,_,_,rfl,_,_,rfl,rfl,?_⟩
  refine ⟨_,rfl,c,rfl,.inl ⟨kc,.inl c3⟩,_,rfl,_,aY.k (k:=Sum.inr e.1) c3,?_⟩
  rw [ehere]
  refine ⟨_,rfl,.inl ⟨rfl,_,SqL.of D3⟩,_,rfl,_,rfl,ae.2,rfl,⟨_,SqL.of E3.l⟩,fun L hL=>?_⟩
  have Lpk:L≠pk:=fun z=>by rw [z,M3.k] at hL; cases hL
  have LH:H L=none:=b3.none Lpk hL
  have LD:L≠D:=fun z=>by rw [z,D3] at hL; cases hL
  have Lc:L≠c:=fun z=>by rw [z,c3] at hL; cases hL
  have sL:=iQ.new hL (.lst [])
  refine qV (K:=K) (a:=ae.2) (xs:=e.2.map Prod.fst) (fun j ys σ H'=>∃ kv':List (List Key × V),(∃ c0:Option V,σ=[c0,some (.int (hN e.1:Nat)),some (.ref a)])/\ys=((e.2.take j).filter fun x=>decide (hN e.1 &&& rowOf vl x.2=hN e.1)).map Prod.fst/\H' L=some (.lst ys)/\But pk H3 H'/\iW H' C a dx pe (full:Nat) pf pn pk uv vl kv'/\kv'.length<=kv3.length + j)
   ⟨kv3,⟨none,rfl⟩,rfl,dQ,But.of sL,M3.same sL,Nat.le_refl _⟩ (fun j ys σ H' _ hh=>by obtain ⟨_,_,_,_,b,_⟩:=hh; exact SqL.of (b _ _ (M3.nk E3.l (fun _ z=>nomatch z)) E3.l)) ?_ ?_
  ·rintro j y ys σ H5 hj ⟨kv5,⟨c0,rfl⟩,rfl,L5,b5,M5,k5⟩
   rw [List.getElem?_map] at hj
   obtain ⟨x,hx,rfl⟩:=Option.map_eq_some_iff.mp hj
   have jl:j < e.2.length:=(List.getElem?_eq_some_iff.mp hx).1
   have hxm:=List.mem_of_getElem? hx
   obtain ⟨ps,ep,hps⟩:=(E3.s x hxm).butK M3 b5
   rw [ep]
   refine ⟨_,rfl,_,rfl,a,dx,_,rfl,M5.i,a4Q _ _ _ _ _ (by decide +kernel),_,rfl,a,dx,pe,pf,pn,pk,ps,full,uv,vl,kv5,many,x.2,rfl,M5,hps,l400,ein x hxm,vok,by omega,fun H6 kv6 b6 M6 k6=>?_⟩
   refine ⟨_,_,rfl,rfl,_,rfl,rfl,_,rfl,?_⟩
   have L6:=b6 _ _ Lpk L5
   have hb:decide (V.int (Builtin.bitAnd (hN e.1:Int) (rowOf vl x.2:Nat))=V.int (hN e.1:Nat))=decide (hN e.1 &&& rowOf vl x.2=hN e.1):=by
    rw [m6Q]
    exact decide_eq_decide.mpr ⟨fun z=>Int.ofNat.inj (V.int.inj z),fun z=>by rw [z]⟩
   have ft:=s5Q (f:=fun x:V × Say=>decide (hN e.1 &&& rowOf vl x.2=hN e.1)) hx
   rcases Bool.eq_false_or_eq_true (decide (hN e.1 &&& rowOf vl x.2=hN e.1)) with hd | hd
   ·rw [if_pos hd] at ft
    have hyl:=List.length_filter_le (fun x:V × Say=>decide (hN e.1 &&& rowOf vl x.2=hN e.1)) (e.2.take j)
    rw [List.length_take] at hyl
    refine rV (hb.trans hd) ⟨_,rfl,L6,eZ (by rw [List.length_map]; omega),kv6,⟨_,rfl⟩,by rw [ft,List.map_append,<-ep]; rfl,dQ,(b5.trans b6).put hL,?_,by omega⟩
    exact M3.of ((b5.trans b6).put hL) (by rw [kQ Lpk.symm]; exact M6.k) M6.n
   ·rw [if_neg (by rw [hd]; exact fun z=>nomatch z),List.append_nil] at ft
    refine nJ (hb.trans hd) ⟨kv6,⟨_,rfl⟩,by rw [ft],L6,b5.trans b6,M6,by omega⟩
  rintro ys σ H5 ⟨kv5,⟨c0,rfl⟩,rfl,L5,b5,M5,k5⟩
  rw [List.length_map] at k5 L5
  rw [List.take_length] at L5
  refine ⟨(by show 2<=sizeLine; decide),fun t ht=>?_⟩
  have st:=iQ.new ht (.tup [.str e.1,.ref L])
  have t6:upd H5 t (.tup [.str e.1,.ref L]) t=some (.tup [.str e.1,.ref L]):=dQ
  have L6:=st _ _ L5
  have b6:=b5.trans (But.of st)
  have M6:=M5.same st
  have tpk:t≠pk:=fun z=>by rw [z,M5.k] at ht; cases ht
  have tH:H t=none:=(b3.trans b5).none tpk ht
  generalize upd H5 t (.tup [.str e.1,.ref L])=H6 at *
  have D6:=b6 _ _ Dpk D3
  have al3:=A3.1
  rw [List.length_map,List.length_take] at al3
  refine ⟨D,_,_,rfl,rfl,D6,eZ (by rw [List.length_map]; omega),?_⟩
  have A6:tX (fun (a:Addr × Addr) e=>H a.1=none/\H a.2=none/\a.2≠D/\jJ H6 a.1 a.2 e) as3 ((es.take i).map (kept vl hN)):=A3.mono fun _ _ h=>⟨h.1,h.2.1,h.2.2.1,h.2.2.2.butK M3 b6⟩
  have E6:jJ H6 t L (kept vl hN e):=⟨t6,L6,fun x hx=>(E3.s x (List.mem_filter.mp hx).1).butK M3 b6⟩
  refine ⟨kv5,as3++[(t,L)],⟨_,_,_,rfl⟩,(b3.trans b6).put DH,?_,by rw [dQ,List.map_append]; rfl,M.of ((b3.trans b6).put DH) (by rw [kQ Dpk.symm]; exact M6.k) M6.n,by omega,?_⟩
  ·rw [kQ (fun z=>by rw [z,D3] at c3; cases c3)]
   exact b6 _ _ cpk c3
  ·rw [List.take_add_one,he,List.map_append]
   refine pJ (A6.mono fun _ _ h=>⟨h.1,h.2.1,h.2.2.1,h.2.2.2.put D6 h.2.2.1⟩) ⟨rfl,fun k x y hx hy=>?_⟩
   match k,hx,hy with
   | 0,rfl,rfl=>exact ⟨tH,LH,LD,E6.put D6 LD⟩
 ·rintro σ H3 ⟨kv3,as3,⟨c4,c5,c6,rfl⟩,b3,c3,D3,M3,k3,A3⟩
  rw [List.length_map,hl,List.take_length] at k3 A3
  rw [q6Z Bc] at A3
  exact ⟨_,rfl,q D as3 H3 kv3 b3 ⟨DH,D3,A3⟩ M3 (by omega)⟩
end
def f1 (pe:Addr):List (Str × V):=[("every",.ref pe)]
def f2 (pe:Addr) (full:Int):List (Str × V):=[("every",.ref pe),("full",.int full)]
def f3 (pe:Addr) (full:Int) (pf:Addr):List (Str × V):=[("every",.ref pe),("full",.int full),("first",.ref pf)]
def f4 (pe:Addr) (full:Int) (pf pn:Addr):List (Str × V):=[("every",.ref pe),("full",.int full),("first",.ref pf),("nexts",.ref pn)]
theorem pF1 (pe:Addr):nV "every" (.ref pe) []=f1 pe:=rfl
theorem pF2 (pe:Addr) (full:Int):nV "full" (.int full) (f1 pe)=f2 pe full:=by
 simp [f1,f2,nV,show ¬ (("every":Str) = "full") by decide +kernel]
theorem pF3 (pe:Addr) (full:Int) (pf:Addr):nV "first" (.ref pf) (f2 pe full)=f3 pe full pf:=by
 simp [f2,f3,nV,show ¬ (("every":Str) = "first") by decide +kernel,show ¬ (("full":Str) = "first") by decide +kernel]
theorem pF4 (pe:Addr) (full:Int) (pf pn:Addr):nV "nexts" (.ref pn) (f3 pe full pf)=f4 pe full pf pn:=by
 simp [f3,f4,nV,show ¬ (("every":Str) = "nexts") by decide +kernel,show ¬ (("full":Str) = "nexts") by decide +kernel,show ¬ (("first":Str) = "nexts") by decide +kernel]
theorem pF5 (pe:Addr) (full:Int) (pf pn pk:Addr):nV "known" (.ref pk) (f4 pe full pf pn)=ckf pe full pf pn pk:=by
 simp [f4,ckf,nV,show ¬ (("every":Str) = "known") by decide +kernel,show ¬ (("full":Str) = "known") by decide +kernel,show ¬ (("first":Str) = "known") by decide +kernel,show ¬ (("nexts":Str) = "known") by decide +kernel]
theorem r6Z (pe:Addr) (full:Int) (pf pn:Addr):(f4 pe full pf pn).lookup ("nexts":Str)=some (V.ref pn):=lk1 (by decide +kernel) (lk1 (by decide +kernel) (lk1 (by decide +kernel) lk0))
theorem k3Z (n:Nat):(List.replicate n [V.bl true]).flatten=(List.replicate n true).map V.bl:=by
 induction n with
 | zero=>rfl
 | succ n ih=>rw [List.replicate_succ,List.replicate_succ,List.flatten_cons,ih]; rfl
def CnP (bs:List Box) (rs:List Row):Nx:=fun z v z' v'=>∃ k,rs[k]?=some (.mark z)/\Cm bs rs k v z' v'
theorem gO:∀ {rs:List Row} {i j:Nat} {z:Str},(mks rs).Nodup->rs[i]?=some (.mark z)->rs[j]?=some (.mark z)->i=j
 | [],i,j,z,_,h,_=>by cases h
 | r :: rs,0,0,z,_,_,_=>rfl
 | r :: rs,0,j + 1,z,nd,h1,h2=>by
  cases h1
  have h2:rs[j]?=some (.mark z):=by simpa using h2
  have:z∈mks rs:=List.mem_filterMap.mpr ⟨_,List.mem_of_getElem? h2,rfl⟩
  exact absurd this (List.nodup_cons.mp (show (z :: mks rs).Nodup from nd)).1
 | r :: rs,i + 1,0,z,nd,h1,h2=>by
  cases h2
  have h1:rs[i]?=some (.mark z):=by simpa using h1
  have:z∈mks rs:=List.mem_filterMap.mpr ⟨_,List.mem_of_getElem? h1,rfl⟩
  exact absurd this (List.nodup_cons.mp (show (z :: mks rs).Nodup from nd)).1
 | r :: rs,i + 1,j + 1,z,nd,h1,h2=>by
  have nd':(mks rs).Nodup:=by
   unfold mks at nd ⊢
   rw [List.filterMap_cons] at nd
   cases e:r.nm with
   | none=>rw [e] at nd; exact nd
   | some y=>rw [e] at nd; exact (List.nodup_cons.mp nd).2
  have h1:rs[i]?=some (.mark z):=by simpa using h1
  have h2:rs[j]?=some (.mark z):=by simpa using h2
  rw [gO nd' h1 h2]
def b4Q (C:Addr):Sp:=fun vs H Q _=>∃ (a dx pp pb pr:Addr) (us ur:List V) (bs:List Box) (rs:List Row),vs=[.ref a,.ref pp]/\H a=some (.ins C dx [])/\bX H pp pb pr us ur bs rs/\xW bs rs/\(mks rs).Nodup /\
 ∀ (pe pf pn pk:Addr) (full:Nat) (uv:List V) (kf kn:List (Key × V)) (f0:Str->Nat) (H':Hp),H pk=none->But a H H'->iW H' C a dx pe (full:Nat) pf pn pk uv (wZ bs) []->Bs (wZ bs) full (fun _=>True)->H' pf=some (.dK kf)->Cd (mks rs) kf f0->Bt (wZ bs) f0 (Cf bs rs (0,bs.map Box.fst))->H' pn=some (.dK kn)->(∀ z∈mks rs,nxE H' (mks rs) (wZ bs) (CnP bs rs) kn z)->Q .non H'
section
variable {C:Addr}
theorem jY {H:Hp} {a dx:Addr} {fs:List (Str × V)} (h:H a=some (.ins C dx fs)) {b:Addr} {o:HO} (hb:H b=some o) (ho:∀ c d f,o ≠ .ins c d f):b≠a:=fun z=>by rw [z,h] at hb; cases hb; exact ho _ _ _ rfl
theorem bX.butI {H H':Hp} {a dx:Addr} {fs:List (Str × V)} (ha:H a=some (.ins C dx fs)) (b:But a H H') {pp pb pr:Addr} {us ur:List V} {bs:List Box} {rs:List Row} (h:bX H pp pb pr us ur bs rs):bX H' pp pb pr us ur bs rs:=
 ⟨b _ _ (jY ha h.prog (fun _ _ _ z=>nomatch z)) h.prog,⟨b _ _ (jY ha h.boxes.at_ (fun _ _ _ z=>nomatch z)) h.boxes.at_,h.boxes.each.mono fun _ _ ⟨p,e,hp⟩=>⟨p,e,b _ _ (jY ha hp (fun _ _ _ z=>nomatch z)) hp⟩⟩,h.ok,b _ _ (jY ha h.ro (fun _ _ _ z=>nomatch z)) h.ro,h.each.mono fun _ _ z=>z.tups fun _ _ e=>b _ _ (jY ha e (fun _ _ _ z=>nomatch z)) e⟩
theorem mJ.butI {H H':Hp} {a dx:Addr} {fs:List (Str × V)} (ha:H a=some (.ins C dx fs)) (b:But a H H') {p:Addr} {us:List V} {vs:List (List Int)} (h:mJ H p us vs):mJ H' p us vs:=
 ⟨b _ _ (jY ha h.at_ (fun _ _ _ z=>nomatch z)) h.at_,h.each.mono fun _ _ ⟨p,e,hp⟩=>⟨p,e,b _ _ (jY ha hp (fun _ _ _ z=>nomatch z)) hp⟩⟩
theorem rX.butI {H H':Hp} {a dx:Addr} {fs:List (Str × V)} (ha:H a=some (.ins C dx fs)) (b:But a H H') {d:Addr} {kvs:List (NKey × V)} (h:rX P w H d kvs):rX P w H' d kvs:=by
 obtain ⟨xs,nt,hd,r⟩:=h
 exact ⟨xs,nt.keeps (fun c ys e=>b _ _ (jY ha e (fun _ _ _ z=>nomatch z)) e),b _ _ (jY ha hd (fun _ _ _ z=>nomatch z)) hd,r⟩
theorem c3X {H:Hp} {Q:VK} {E:XK} {pp pb pr p pz pt d:Addr} {us ur:List V} {bs:List Box} {rs:List Row} {k:Nat} {ns:List Int} {kvs:List (NKey × V)} (G:bX H pp pb pr us ur bs rs) (S:fK H p k pz ns) (hk:k<=rs.length) (hw:Within bs ns) (hpt:H pt=some (.dT (eU (wZ bs) (wZ bs).length))) (N:rX P w H d kvs) (g:Gd bs rs kvs H k ns) (q:∀ (x:Addr) (H':Hp) (kf:List (Key × V)) (f:Str->Nat),iQ H H'->H' x=some (.dK kf)->Cd (mks rs) kf f->Bt (wZ bs) f (Cf bs rs (k,ns))->Q (.ref x) H'):eY P w [.ref pp,.ref p,.ref pt,.ref d] H Q E:=by
 obtain ⟨kn,hkn⟩:=d1Z G.ok hw
 refine ⟨pp,pb,pr,p,pz,pt,d,us,ur,bs,rs,k,ns,rfl,G,S,hk,fun nm=>?_,fun z hz=>?_⟩
 ·obtain ⟨c,kv,f,ev,hc,C,B⟩:=g
  refine ⟨kvs,.ref c,N.rd,ev,q c H kv f (iQ.refl _) hc C (B.congr fun z u=>?_)⟩
  exact ⟨fun h=>.inr ⟨nm,h⟩,fun h=>h.elim (fun h=>absurd h.1 (nm z)) (fun h=>h.2)⟩
 ·refine ⟨_,.int ((2 ^ kn:Nat):Int),hpt,h8Q (xK bs) hkn,fun mm H8 hmm s8 m8=>?_⟩
  refine q mm H8 _ _ s8 m8 (Cd.one (2 ^ kn) (List.mem_filterMap.mpr ⟨_,List.mem_of_getElem? hz,rfl⟩)) ((Bt.one (xK bs) hkn z).congr fun y u=>?_)
  constructor
  ·rintro ⟨rfl,rfl⟩
   exact .inl ⟨hz,rfl⟩
  ·rintro (⟨h1,h2⟩ | ⟨h1,_⟩)
   ·rw [hz] at h1
    cases h1
    exact ⟨rfl,h2⟩
   ·exact absurd hz (h1 z)
theorem s6Z {X:Cx} (P:Program) (w:World) {o i:Expr} {td ty:TE} {pos:Pos} (hu:X.A.units + 2 < cLine) (ho:PE X o td) (hi:PE X i ty) (hs:NoSl i) (h1:X.prog=P:=by rfl) (h2:X.w=w:=by rfl):PE X (.Subscript o i pos) (c0X P w td ty):=by
 subst h1 h2
 exact g6Q hu ho hi hs
def nxA (G:Hp) (bs:List Box) (rs:List Row) (z:Str) (us:List V) (vs:List (List Int)):Prop:=tX (fun u v=>∃ c kv g,u = .ref c/\G c=some (.dK kv)/\Cd (mks rs) kv g/\Bt (wZ bs) g (CnP bs rs z v)) us vs
def nx3 (G H:Hp) (bs:List Box) (rs:List Row) (kn:List (Key × V)) (z:Str):Prop:=∃ (l:Addr) (us:List V),vZ kn (Sum.inr z)=some (.ref l)/\H l=some (.lst us)/\nxA G bs rs z us (wZ bs).reverse
theorem iO:yQ ["self","program","every","bits","behind","mark","row"] ["self","program"] (gQ sO):=(by wtm_at "f")
theorem t6Z {f:Addr} {fd:FuncData} (F:Fun K "__init__" "Checker.__init__" sO f fd) (B:Blt mg) (T:TxC K mg C) (cA:Cal P w K mg base 2 "all_values" ["program"] spAllValues) (cE:Cal P w K mg base 1 "bit_of_each" ["every"] spBitOf) (cH:Cal P w K mg base 20 "come_behind" ["program","every","bits"] (t0Q P w)) (cB:Cal P w K mg base 1 "bits_of" ["truths"] spBitsOf) (cF:Cal P w K mg base 3 "come_from" ["program","standing","bits","behind"] (eY P w)) (cS:Cal P w K mg base 1 "start_of" ["program"] spStartOf) (cM:Cal P w K mg base 1 "mark_places" ["rows"] spMarkPlaces):gU P w K mg base CX0 21 f fd ["self","program"] (b4Q C):=by
 refine F.ok iO (fun vs H Q E h=>?_) (fun cdv A outer s H vs Q E hr h=>?_)
 ·obtain ⟨_,_,_,_,_,_,_,_,_,rfl,_⟩:=h
  rfl
 obtain ⟨a,dx,pp,pb,pr,us,ur,bs,rs,rfl,ha,G,O,nd,q⟩:=h
 have ok:=G.ok
 have l4:=O.l4
 have v400:=O.vol
 have l60:=O.l60
 have hu:=uY hr
 have hu3:(A.deeper _).units + 2 < cLine:=Nat.lt_of_le_of_lt (Nat.add_le_add_left (by decide:2<=64) _) hr.units
 have hr20:sZ 20 _:=hr
 have hr3:sZ 3 _:=hr.mono (by decide)
 have hr2:sZ 2 _:=hr.mono (by decide)
 have hr1:sZ 1 _:=hr.mono (by decide)
 refine ⟨_,(bQ (qQ (i:=2) iO.nd rfl (Or.inl rfl) (wQ cA hr2 rfl (aQ (pv 1) eQ)))
  (bQ (qQ (i:=3) iO.nd rfl (Or.inl rfl) (wQ cE hr1 rfl (aQ (pv 2) eQ)))
  (bQ (qQ (i:=4) iO.nd rfl (Or.inr rfl) (wQ cH hr20 rfl (aQ (pv 1) (aQ (pv 2) (aQ (pv 3) eQ)))))
  (bQ (r2Q (pv 0) (pv 2) rfl)
  (bQ (r2Q (pv 0) (wQ cB hr1 rfl (aQ (lQ a1X (jX (aQ jW eQ)) (bZ dZ rfl B.len pX (aQ (pv 2) eQ))) eQ)) rfl)
  (bQ (r2Q (pv 0) (wQ cF hr3 rfl (aQ (pv 1) (aQ (wQ cS hr1 rfl (aQ (pv 1) eQ)) (aQ (pv 3) (aQ (pv 4) eQ))))) rfl)
  (bQ (r2Q (pv 0) d0Q rfl)
  (bQ (uZ PassesOwn.never rfl (u7Q (wQ cM hr1 rfl (aQ (mQ pQ (pv 1) cQ (fun _ _=>rfl)) eQ))) (jK rfl (jZ (uQ (i:=5) iO.nd rfl (Or.inl rfl)) (jZ (uQ (i:=6) iO.nd rfl (Or.inr rfl)) dJ)))
   (fQ (lK hu (fU (pv 0) rfl) (pv 5) (nY (gQ sO) ["self","program","every","bits","behind","mark","row"] (N:=["values","behind","row"]) (ix:=[none,some 4,some 6]) rfl (by wtm_at "g") (h5Z rfl B.reversed (pv 2)) (fun _ _ _ _=>uQ (i:=0) (show (["values","behind","row"]:List Str).Nodup by decide +kernel) rfl (Or.inl rfl)) (fun _ _ _ _=>bW) (fun _ _ _ _=>(s6Z P w hu3 (pv 1) (iZ (aQ (pv 2) (aQ (pv 0) eQ))) (fun _ _=>rfl)))) rfl)))
  (fQ (r2Q (pv 0) m7Q rfl)))))))))),?_⟩
 have al:(wZ bs).length<=400:=by rw [lV]; exact v400
 have nda:=xK bs
 refine ⟨_,rfl,pp,pb,.ref pr,us,bs,rfl,G.prog,G.boxes,ok,l4,v400,fun pe uv H1 hpe s1 V1=>?_⟩
 refine ⟨_,rfl,pe,uv,wZ bs,rfl,V1,nda,al,fun pt H2 hpt s2 T2=>?_⟩
 refine ⟨_,rfl,_,rfl,_,rfl,pp,pb,pr,pe,pt,us,ur,uv,bs,rs,rfl,G.same (s1.trans s2),O,V1.same s2,T2,fun d H3 kvs hd s3 N3 g3=>?_⟩
 have s03:=(s1.trans s2).trans s3
 have G3:=G.same s03
 have V3:=(V1.same s2).same s3
 have T3:=s3 _ _ T2
 have a3:=s03 _ _ ha
 have ul:=V3.each.1
 refine ⟨_,rfl,_,rfl,a,C,dx,[],rfl,a3,T.cl,T.nE,(by show 0 < 1000; decide),nxs ?_⟩
 rw [pF1]
 have a4:upd H3 a (.ins C dx (f1 pe)) a=some (.ins C dx (f1 pe)):=dQ
 have b4:But a H3 (upd H3 a (.ins C dx (f1 pe))):=But.upd _
 generalize upd H3 a (.ins C dx (f1 pe))=H4 at *
 refine ⟨(by show 1<=sizeLine; decide),fun pq hpq=>?_⟩
 have s5:=iQ.new hpq (.lst [.bl true])
 have t5:upd H4 pq (.lst [.bl true]) pq=some (.lst [.bl true]):=dQ
 have b5:=b4.trans (But.of s5)
 have a5:=s5 _ _ a4
 generalize upd H4 pq (.lst [.bl true])=H5 at *
 refine ⟨_,rfl,pe,uv,rfl,.inl (SqL.of (V3.butI a3 b5).at_),pq,_,_,rfl,rfl,t5,by omega,by omega,?_,fun px hpx=>?_⟩
 ·rw [List.length_singleton,Nat.one_mul]
  exact Nat.le_trans (by omega:(uv.length:Int).toNat<=100000) (h2Q (Nat.le_refl _))
 have et:(List.replicate ((uv.length:Int)).toNat [V.bl true]).flatten=(List.replicate (wZ bs).length true).map V.bl:=by
  rw [Int.toNat_natCast,ul,k3Z]
 rw [et]
 refine ⟨px,_,rfl,dQ,?_⟩
 have s6:=iQ.new hpx (.lst ((List.replicate (wZ bs).length true).map V.bl))
 have b6:=b5.trans (But.of s6)
 have a6:=s6 _ _ a5
 generalize upd H5 px (.lst ((List.replicate (wZ bs).length true).map V.bl))=H6 at *
 refine ⟨_,rfl,a,C,dx,_,rfl,a6,T.cl,T.nF,(by show 1 < 1000; decide),nxs ?_⟩
 have fu:=b9Z (wZ bs)
 generalize bw (List.replicate (wZ bs).length true)=full at *
 rw [pF2]
 have a7:upd H6 a (.ins C dx (f2 pe full)) a=some (.ins C dx (f2 pe full)):=dQ
 have b7:=b6.trans (But.upd (r:=a) (H:=H6) (.ins C dx (f2 pe full)))
 generalize upd H6 a (.ins C dx (f2 pe full))=H7 at *
 have G7:=G3.butI a3 b7
 refine ⟨_,rfl,_,rfl,pp,pb,pr,us,ur,bs,rs,rfl,G7,l4,fun st pz H8 hst s8 S8=>?_⟩
 have b8:=b7.trans (But.of s8)
 have a8:=s8 _ _ a7
 have N8:=rX.butI a3 b8 N3
 have g8:Gd bs rs kvs H8 0 (bs.map Box.fst):=by
  obtain ⟨c,kv,f,e,hc,C',B'⟩:=g3 0 (Nat.zero_le _) _ (yK ok (oO ok))
  exact ⟨c,kv,f,e,b8 _ _ (jY a3 hc (fun _ _ _ z=>nomatch z)) hc,C',B'⟩
 refine ⟨_,rfl,_,rfl,?_⟩
 dsimp only [tNil]
 show eY P w [.ref pp,.ref st,.ref pt,.ref d] H8 _ _
 refine c3X (G7.same s8) S8 (Nat.zero_le _) (oO ok) (b8 _ _ (jY a3 T3 (fun _ _ _ z=>nomatch z)) T3) N8 g8 fun pf H9 kf f0 s9 f9 C9 B9=>?_
 have b9:=b8.trans (But.of s9)
 have a9:=s9 _ _ a8
 refine ⟨_,rfl,a,C,dx,_,rfl,a9,T.cl,T.n1,(by show 2 < 1000; decide),?_⟩
 rw [pF3]
 have npf:pf≠a:=fun z=>by rw [z,a9] at f9; cases f9
 have a10:upd H9 a (.ins C dx (f3 pe full pf)) a=some (.ins C dx (f3 pe full pf)):=dQ
 have f10:upd H9 a (.ins C dx (f3 pe full pf)) pf=some (.dK kf):=by rw [kQ npf]; exact f9
 have b10:=b9.trans (But.upd (r:=a) (H:=H9) (.ins C dx (f3 pe full pf)))
 generalize upd H9 a (.ins C dx (f3 pe full pf))=H10 at *
 intro pn hpn
 have s11:=iQ.new hpn (.dK [])
 have n11:upd H10 pn (.dK []) pn=some (.dK []):=dQ
 have a11:=s11 _ _ a10
 have f11:=s11 _ _ f10
 have b11:=b10.trans (But.of s11)
 have npnf:pf≠pn:=fun z=>by rw [<-z,f10] at hpn; cases hpn
 have npn3:H3 pn=none:=by
  cases e:H3 pn with
  | none=>rfl
  | some o =>
   have:=b10 pn o (fun z=>by rw [z,a10] at hpn; cases hpn) e
   rw [hpn] at this
   cases this
 generalize upd H10 pn (.dK [])=H11 at *
 refine ⟨_,rfl,a,C,dx,_,rfl,a11,T.cl,T.nN,(by show 3 < 1000; decide),nxs ?_⟩
 rw [pF4]
 have npn:pn≠a:=fun z=>by rw [z,a11] at n11; cases n11
 have a12:upd H11 a (.ins C dx (f4 pe full pf pn)) a=some (.ins C dx (f4 pe full pf pn)):=dQ
 have f12:upd H11 a (.ins C dx (f4 pe full pf pn)) pf=some (.dK kf):=by rw [kQ npf]; exact f11
 have n12:upd H11 a (.ins C dx (f4 pe full pf pn)) pn=some (.dK []):=by rw [kQ npn]; exact n11
 have b12:=b11.trans (But.upd (r:=a) (H:=H11) (.ins C dx (f4 pe full pf pn)))
 generalize upd H11 a (.ins C dx (f4 pe full pf pn))=H12 at *
 have G12:=G3.butI a3 b12
 refine ⟨_,rfl,pp,_,((1:Nat):Int),_,rfl,rfl,SqT.of G12.prog,rfl,pr,ur,rs,rfl,G12.ro,G12.each,l60,nd,fun dm H13 hdm s13 m13=>?_⟩
 refine ⟨dm,_,rfl,m13,fun o=>?_⟩
 have ndm:dm≠a:=fun z=>by rw [z,a12] at hdm; cases hdm
 have dma:H12 dm=none:=hdm
 have bm:But a H3 (upd H13 dm (.frz o (.dK (mpl rs 0)))):=fun c u n e=>by
  have e12:=b12 c u n e
  rw [kQ (jQ e12 hdm)]
  exact s13 _ _ e12
 have keep:∀ {c u},H12 c=some u->upd H13 dm (.frz o (.dK (mpl rs 0))) c=some u:=fun e=>by
  rw [kQ (jQ e hdm)]
  exact s13 _ _ e
 have a14:=keep a12
 have f14:=keep f12
 have n14:=keep n12
 have m14:upd H13 dm (.frz o (.dK (mpl rs 0))) dm=some (.frz o (.dK (mpl rs 0))):=dQ
 generalize upd H13 dm (.frz o (.dK (mpl rs 0)))=H14 at *
 refine g5Q (d:=dm) (o:=o) (kvs:=mpl rs 0) (fun i σ H'=>∃ kn:List (Key × V),(∃ c5 c6:Option V,σ=[some (.ref a),some (.ref pp),some (.ref pe),some (.ref pt),some (.ref d),c5,c6])/\But a H3 H'/\H' a=some (.ins C dx (f4 pe full pf pn))/\H' pf=some (.dK kf)/\H' pn=some (.dK kn)/\H' dm=some (.frz o (.dK (mpl rs 0)))/\kn.length<=i/\∀ kv∈(mpl rs 0).take i,∀ z,kv.1=Sum.inr z->nx3 H3 H' bs rs kn z)
  ⟨[],⟨none,none,rfl⟩,bm,a14,f14,n14,m14,Nat.zero_le _,fun kv hkv=>nomatch hkv⟩ (fun i σ H' _ hh=>by obtain ⟨_,_,_,_,_,_,h,_⟩:=hh; exact h) ?_ ?_
 ·rintro i kv σ H15 Tt hi ⟨kn,⟨c5,c6,rfl⟩,b15,a15,f15,n15,m15,kl,e15⟩ hTt
  obtain ⟨z,r,rfl,hrz⟩:=w9Q hi
  rw [Nat.zero_add] at hi
  rw [Nat.zero_add]
  have hrr:=(List.getElem?_eq_some_iff.mp hrz).1
  have il:i < (mpl rs 0).length:=(List.getElem?_eq_some_iff.mp hi).1
  rw [a1Z] at il
  have il2:=wK rs
  have sT:=iQ.new hTt (.tup [kV (Sum.inr z),.int (r:Nat)])
  have V15:=V3.butI a3 b15
  refine ⟨Tt,_,rfl,SqT.of dQ,rfl,_,_,rfl,_,_,rfl,rfl,?_⟩
  refine ⟨_,rfl,pe,uv,rfl,SqL.of (sT _ _ V15.at_),fun L hL=>?_⟩
  have hL15:H15 L=none:=iQ.free sT hL
  have sL:=iQ.new hL (.lst [])
  refine m1X (K:=K) (a:=pe) (xs:=uv) (fun j ys σ H'=>(∃ c0:Option V,σ=[c0,some (.ref d),some (.int (r:Nat))])/\H' L=some (.lst ys)/\ys.length=j/\nxA H3 bs rs z ys ((wZ bs).reverse.take j)/\iQ H15 H')
   ⟨⟨none,rfl⟩,dQ,rfl,⟨rfl,fun i x y h=>nomatch h⟩,sT.trans sL⟩ (fun j ys σ H' _ hh=>SqL.of (hh.2.2.2.2 _ _ V15.at_)) ?_ ?_
  ·rintro j x ys σ H17 hj ⟨⟨c0,rfl⟩,L17,yl,yo,s17⟩
   have jl:j < uv.length:=by have:=(List.getElem?_eq_some_iff.mp hj).1; rwa [List.length_reverse] at this
   rw [List.getElem?_reverse jl] at hj
   obtain ⟨v,hv,p,rfl,hp⟩:=V3.each.at hj
   have hvr:(wZ bs).reverse[j]?=some v:=by rw [List.getElem?_reverse (by omega),<-ul]; exact hv
   have b17:=b15.trans (But.of s17)
   have hp17:=b17 _ _ (jY a3 hp (fun _ _ _ z=>nomatch z)) hp
   obtain ⟨c,kvc,g,ec,hc,Cg,Bg⟩:=g3 r (by omega) v (List.mem_of_getElem? hv)
   have N17:=rX.butI a3 b17 N3
   refine ⟨_,rfl,_,rfl,_,rfl,(by show 2<=sizeLine; decide),fun t ht=>?_⟩
   have st:=iQ.new ht (.tup [.int (r:Nat),.ref p])
   refine ⟨d,t,(Sum.inl (r:Int),tk v),kvs,.ref c,rfl,rfl,⟨p,dQ,by rw [u1Q]; exact st _ _ hp17⟩,(N17.same st).rd,ec,st _ _ L17,eZ (by omega),⟨_,rfl⟩,dQ,by rw [List.length_append,yl]; rfl,?_,fun b' o' e=>by rw [kQ (jQ e hL15)]; exact st _ _ (s17 _ _ e)⟩
   rw [List.take_add_one,hvr]
   refine pJ yo ⟨rfl,fun m x y hx hy=>?_⟩
   match m,hx,hy with
   | 0,rfl,rfl =>
    refine ⟨c,kvc,g,rfl,hc,Cg,Bg.congr fun z' u=>⟨fun h=>⟨r,hrz,h⟩,fun hh=>?_⟩⟩
    obtain ⟨k',h1,h2⟩:=hh
    rw [gO nd hrz h1]
    exact h2
  rintro ys σ H17 ⟨⟨c0,rfl⟩,L17,yl,yo,s17⟩
  have ulr:uv.length=(wZ bs).reverse.length:=by rw [List.length_reverse]; exact ul
  rw [ulr,List.take_length] at yo
  refine ⟨_,rfl,a,C,dx,_,_,rfl,s17 _ _ a15,T.cl,T.nN,r6Z _ _ _ _,_,rfl,pn,_,rfl,DPut.k (k:=Sum.inr z) (s17 _ _ n15) (eZ (by omega)),?_⟩
  have nL:L≠pn:=fun e=>by rw [e,n15] at hL15; cases hL15
  refine ⟨dX kn (Sum.inr z) (.ref L),⟨_,_,rfl⟩,(b15.trans (But.of s17)).put npn3,by rw [kQ npn.symm]; exact s17 _ _ a15,by rw [kQ npnf]; exact s17 _ _ f15,dQ,by rw [kQ (zO m15 n15 (fun z=>nomatch z))]; exact s17 _ _ m15,Nat.le_trans (h1Z _ _ _) (by omega),fun kv hkv z' hz'=>?_⟩
  by_cases ez:z'=z
  ·subst ez
   exact ⟨L,ys,by rw [bJ,if_pos rfl],by rw [kQ nL]; exact L17,yo⟩
  ·rw [List.take_add_one,hi] at hkv
   rcases List.mem_append.mp hkv with h1 | h1
   ·obtain ⟨l,us',e1,e2,e3⟩:=e15 kv h1 z' hz'
    exact ⟨l,us',by rw [bJ,if_neg (fun e=>ez (Sum.inr.inj e))]; exact e1,by rw [kQ (zO e2 n15 (fun z=>nomatch z))]; exact s17 _ _ e2,e3⟩
   ·have e:kv=(Sum.inr z,V.int (r:Nat)):=by simpa using h1
    rw [e] at hz'
    exact (ez (Sum.inr.inj hz').symm).elim
 ·rintro σ H15 ⟨kn,⟨c5,c6,rfl⟩,b15,a15,f15,n15,m15,kl,e15⟩
  intro pk hpk
  have s16:=iQ.new hpk (.dT [])
  have k16:upd H15 pk (.dT []) pk=some (.dT []):=dQ
  have a16:=s16 _ _ a15
  have f16:=s16 _ _ f15
  have n16:=s16 _ _ n15
  have b16:=b15.trans (But.of s16)
  have e16:∀ kv∈(mpl rs 0).take (mpl rs 0).length,∀ z,kv.1=Sum.inr z->nx3 H3 (upd H15 pk (.dT [])) bs rs kn z:=fun kv hkv z hz=>by
   obtain ⟨l,us',e1,e2,e3⟩:=e15 kv hkv z hz
   exact ⟨l,us',e1,s16 _ _ e2,e3⟩
  generalize upd H15 pk (.dT [])=H16 at *
  refine ⟨_,rfl,a,C,dx,_,rfl,a16,T.cl,T.nK,(by show 4 < 1000; decide),?_⟩
  rw [pF5]
  have bu:But a H16 (upd H16 a (.ins C dx (ckf pe full pf pn pk))):=But.upd _
  have b17:=b16.trans bu
  have V17:=V3.butI a3 b17
  refine q pe pf pn pk full uv kf kn f0 _ (iQ.free s03 (b15.none (fun z=>by rw [z,a15] at hpk; cases hpk) hpk)) ((But.of s03).trans b17) ⟨dQ,V17,by rw [kQ (jY a16 k16 (fun _ _ _ z=>nomatch z))]; exact k16,fun s=>.inl rfl⟩ fu (by rw [kQ npf]; exact f16) C9 B9 (by rw [kQ npn]; exact n16) fun z hz=>?_
  rw [List.take_length] at e16
  have hz':Sum.inr z∈(mpl rs 0).map (·.1):=by rw [nU]; exact List.mem_map.mpr ⟨z,hz,rfl⟩
  obtain ⟨kv,hkv,ez⟩:=List.mem_map.mp hz'
  obtain ⟨l,us',e1,e2,e3⟩:=e16 kv hkv z ez
  exact ⟨l,us',e1,bu _ _ (jY a16 e2 (fun _ _ _ z=>nomatch z)) e2,e3.mono fun _ _ ⟨c,kv,g,ec,hc,r⟩=>⟨c,kv,g,ec,b17 _ _ (jY a3 hc (fun _ _ _ z=>nomatch z)) hc,r⟩⟩
end
noncomputable def v1Q (bs:List Box) (rs:List Row) (es:List Ent) (e:Ent) (x:V × Say):Bool:=@decide (∀ v∈wZ bs,Come (wZ bs) (Cf bs rs (0,bs.map Box.fst)) (CnP bs rs) es e.1 v->x.2.so v=true) (Classical.propDecidable _)
noncomputable def U (bs:List Box) (rs:List Row) (es:List Ent):List Ent:=es.map fun e=>(e.1,e.2.filter (v1Q bs rs es e))
theorem iK {bs:List Box} {rs:List Row} {es:List Ent} {e:Ent} {x:V × Say}:v1Q bs rs es e x=true ↔ ∀ v∈wZ bs,Come (wZ bs) (Cf bs rs (0,bs.map Box.fst)) (CnP bs rs) es e.1 v->x.2.so v=true:=@decide_eq_true_iff _ (Classical.propDecidable _)
theorem j1Z {H:Hp} {t' L' t L:Addr} {e:Ent} {pf:V × Say->Bool} (E':jJ H t' L' (e.1,e.2.filter pf)) (E:jJ H t L e) (n1:t'≠t) (n2:L'≠L):Dcd H 3 (.ref t') (.ref t) (decide ((e.2.filter pf).length=e.2.length)):=by
 refine .inr (.inl ⟨t',t,_,_,fun i=>if i=1 then decide ((e.2.filter pf).length=e.2.length) else true,rfl,rfl,n1,.inl ⟨E'.t,E.t⟩,rfl,?_,fun i u v h1 h2=>?_⟩)
 ·show _=(true && (decide ((e.2.filter pf).length=e.2.length) && true))
  rw [Bool.and_true,Bool.true_and]
 ·match i,h1,h2 with
  | 0,rfl,rfl=>exact .inl ⟨rfl,.inl rfl,rfl⟩
  | 1,rfl,rfl =>
   by_cases hs:(e.2.filter pf).length=e.2.length
   ·have es:e.2.filter pf=e.2:=List.Sublist.eq_of_length List.filter_sublist hs
    refine .inr (.inl ⟨L',L,_,_,fun _=>true,rfl,rfl,n2,.inr ⟨E'.l,E.l⟩,by rw [es],?_,fun j u v g1 g2=>?_⟩)
    ·show decide ((e.2.filter pf).length=e.2.length)=_
     rw [decide_eq_true hs]
     exact (List.all_eq_true.mpr fun _ _=>rfl).symm
    ·rw [es,g2] at g1
     cases g1
     rw [List.getElem?_map] at g2
     obtain ⟨x,hx,rfl⟩:=Option.map_eq_some_iff.mp g2
     obtain ⟨p,ep,_⟩:=E.s x (List.mem_of_getElem? hx)
     exact .inl ⟨rfl,.inr ⟨p,ep⟩,rfl⟩
   ·refine .inr (.inr ⟨L',L,_,_,rfl,rfl,n2,E'.l,E.l,fun z=>hs ?_,?_⟩)
    ·rw [List.length_map,List.length_map] at z
     exact z
    ·exact decide_eq_false hs
def eAt (f:Ent->Bool) (es:List Ent) (i:Nat):Bool:=match es[i]? with | some e=>f e | none=>true
theorem c9Z (f:Ent->Bool) (es:List Ent):(List.range es.length).all (eAt f es)=es.all f:=by
 rw [Bool.eq_iff_iff,List.all_eq_true,List.all_eq_true]
 constructor
 ·intro h e he
  obtain ⟨i,hi⟩:=List.mem_iff_getElem?.mp he
  have:=h i (List.mem_range.mpr (List.getElem?_eq_some_iff.mp hi).1)
  unfold eAt at this
  rw [hi] at this
  exact this
 ·intro h i hi
  unfold eAt
  rw [List.getElem?_eq_getElem (List.mem_range.mp hi)]
  exact h _ (List.getElem_mem _)
noncomputable def e0X (bs:List Box) (rs:List Row) (es:List Ent) (e:Ent):Bool:=decide ((e.2.filter (v1Q bs rs es e)).length=e.2.length)
noncomputable def isR (bs:List Box) (rs:List Row) (es:List Ent):Bool:=es.all (e0X bs rs es)
theorem zK {bs:List Box} {rs:List Row} {es:List Ent}:isR bs rs es=true ↔ U bs rs es=es:=by
 unfold isR U
 rw [List.all_eq_true]
 constructor
 ·intro h
  conv=>rhs; rw [<-List.map_id es]
  refine List.map_congr_left fun e he=>?_
  have h1:=of_decide_eq_true (h e he)
  exact Prod.ext rfl (List.Sublist.eq_of_length List.filter_sublist h1)
 ·intro h e he
  have h1:(e.1,e.2.filter (v1Q bs rs es e))=e:=by
   have h':es.map (fun e=>(e.1,e.2.filter (v1Q bs rs es e)))=es.map id:=by rw [List.map_id]; exact h
   exact List.map_inj_left.mp h' e he
  exact decide_eq_true (congrArg List.length (congrArg Prod.snd h1))
theorem t5Q {G H H':Hp} {p q:Addr} {as' as:List (Addr × Addr)} {bs:List Box} {rs:List Row} {es:List Ent} (A':kZ H H' p as' (U bs rs es)) (A:kZ G H' q as es) (hh:∀ a∈as,H a.1≠none/\H a.2≠none) (k:Bool->Bool) {Q:VK} (hq:Q (.bl (k (isR bs rs es))) H'):rDcd k (.ref p) (.ref q) H' Q:=by
 have l1:=A'.each.1
 have l2:=A.each.1
 unfold U at l1
 rw [List.length_map] at l1
 refine ⟨3,p,q,_,_,eAt (e0X bs rs es) es,by decide,rfl,rfl,A'.at_,A.at_,by rw [List.length_map,List.length_map]; omega,fun i u v h1 h2=>?_,by rw [List.length_map,l1,c9Z]; exact hq⟩
 rw [List.getElem?_map] at h1 h2
 obtain ⟨a',ha',rfl⟩:=Option.map_eq_some_iff.mp h1
 obtain ⟨a,ha,rfl⟩:=Option.map_eq_some_iff.mp h2
 obtain ⟨e',he',g1,g2,_,E'⟩:=A'.each.at ha'
 obtain ⟨e,he,_,_,_,E⟩:=A.each.at ha
 unfold U at he'
 rw [List.getElem?_map,he] at he'
 cases he'
 have hm:=hh a (List.mem_of_getElem? ha)
 unfold eAt
 rw [he]
 exact j1Z E' E (fun z=>hm.1 (z ▸ g1)) (fun z=>hm.2 (z ▸ g2))
structure Asks (H:Hp) (pp pb pr pq:Addr) (us ur:List V) (bs:List Box) (rs:List Row) (G:Hp) (as:List (Addr × Addr)) (es:List Ent):Prop where
 P:bX H pp pb pr us ur bs rs
 O:xW bs rs
 nd:(mks rs).Nodup
 A:kZ G H pq as es
 e:∀ e∈es,e.1∈mks rs/\e.2.length<=100/\∀ x∈e.2,x.2.In bs.length
 l:es.length<=60
 s:2 * sumL es * (sumL es + 2)<=90000
theorem y0Q {G H:Hp} {p:Addr} {as:List (Addr × Addr)} {es:List Ent} (h:kZ G H p as es):∀ a∈as,H a.1≠none/\H a.2≠none:=fun a ha=>by
 obtain ⟨i,hi⟩:=List.mem_iff_getElem?.mp ha
 obtain ⟨e,_,_,_,_,E⟩:=h.each.at hi
 exact ⟨fun z=>(by rw [E.t] at z; cases z),fun z=>(by rw [E.l] at z; cases z)⟩
theorem sum2 {n:Nat} (h:2 * n * (n + 2)<=90000):2 * n<=90000:=Nat.le_trans (Nat.le_mul_of_pos_right (2 * n) (by omega:0 < n + 2)) h
def spIsRight:Sp:=fun vs H Q _=>∃ (pp pb pr pq:Addr) (us ur:List V) (bs:List Box) (rs:List Row) (G:Hp) (as:List (Addr × Addr)) (es:List Ent),vs=[.ref pp,.ref pq]/\Asks H pp pb pr pq us ur bs rs G as es/\∀ H',iQ H H'->Q (.bl (isR bs rs es)) H'
section
variable {C:Addr}
theorem l3Z:yQ ["program","paper"] ["program","paper"] (gQ vV):=(by wtm_at "f")
theorem b0Z {fI:Addr} {fdI:FuncData} (h:Has K mg "is_right" vV ["program","paper"]) (T:TxC K mg C) (M:Mk K C fI) (bI:mY K fdI ["self","program"] []) (F:gU P w K mg base CX0 21 fI fdI ["self","program"] (b4Q C)) (cU:MCal P w K mg base 7 C "unbroken" ["self","paper"] (vO C)):Cal P w K mg base 23 "is_right" ["program","paper"] spIsRight:=by
 refine h.cal l3Z (fun vs H Q E h=>?_) (fun f cdv A outer s H vs Q E hr h=>?_)
 ·obtain ⟨_,_,_,_,_,_,_,_,_,_,_,rfl,_⟩:=h
  rfl
 obtain ⟨pp,pb,pr,pq,us,ur,bs,rs,G,as,es,rfl,a,q⟩:=h
 have hr22:sZ (21 + 1) _:=hr
 have hr7:sZ 7 _:=hr.mono (by decide)
 refine ⟨_,(fQ (oQ (lZ (i5Z hr.units) (pK cU T.cl hr7 (j0Z M F hr22 rfl T.mgC bI .nil o0Z (aQ (pv 0) eQ)) (aQ (pv 1) eQ)) (pv 1) (nQ _)))),?_⟩
 refine ⟨_,rfl,fun x dx hx hdx ne=>?_⟩
 have s1:iQ H (upd (upd H dx (.own x)) x (.ins C dx [])):=fun c o e=>by rw [kQ (jQ e hx),kQ (jQ e hdx)]; exact e
 refine ⟨x,dx,pp,pb,pr,us,ur,bs,rs,rfl,dQ,a.P.same s1,a.O,a.nd,fun pe pf pn pk full uv kf kn f0 H2 hpk b2 M2 fu f2 C2 B2 n2 nx2=>⟨rfl,?_⟩⟩
 have s2:iQ H H2:=fun c o e=>b2 c o (jQ e hx) (s1 _ _ e)
 have hsum:=sum2 a.s
 refine ⟨x,dx,_,rfl,M2.i,a4Q _ _ _ _ _ (by decide +kernel),_,rfl,x,dx,pe,pf,pn,pk,pq,full,uv,wZ bs,[],bs.length,mks rs,kf,kn,f0,_,CnP bs rs,G,as,es,rfl,M2,fu,Nat.le_trans (wK rs) a.O.l60,f2,C2,B2,n2,fun e he=>nx2 _ (a.e e he).1,a.A.same s2,fun e he=>(a.e e he).2,a.l,by rw [lV]; exact a.O.vol,z3Q a.P.ok,by rw [List.length_nil]; omega,fun p as' H3 kv' b3 A3 M3 k3=>?_⟩
 have s3:iQ H H3:=fun c o e=>b3 c o (jQ (s1 _ _ e) hpk) (s2 _ _ e)
 exact ⟨_,rfl,t5Q A3 (a.A.same s3) (y0Q (a.A.same s2)) id (q H3 s3)⟩
end
theorem d3X (bs:List Box) (rs:List Row) (es:List Ent):(U bs rs es).map Prod.fst=es.map Prod.fst:=by
 unfold U
 rw [List.map_map]
 rfl
theorem m8Q (f:Ent->V × Say->Bool):∀ es:List Ent,sumL (es.map fun e=>(e.1,e.2.filter (f e)))<=sumL es/\(sumL (es.map fun e=>(e.1,e.2.filter (f e)))=sumL es->(es.map fun e=>(e.1,e.2.filter (f e)))=es)
 | []=>⟨Nat.le_refl _,fun _=>rfl⟩
 | e :: r=>by
  have h1:=m8Q f r
  have h2:(e.2.filter (f e)).length<=e.2.length:=List.length_filter_le _ _
  have e1:sumL ((e :: r).map fun e=>(e.1,e.2.filter (f e)))=(e.2.filter (f e)).length + sumL (r.map fun e=>(e.1,e.2.filter (f e))):=by unfold sumL; rw [List.map_cons,List.map_cons,List.sum_cons]
  have e2:sumL (e :: r)=e.2.length + sumL r:=by unfold sumL; rw [List.map_cons,List.sum_cons]
  rw [e1,e2]
  refine ⟨by omega,fun h=>?_⟩
  rw [List.map_cons,h1.2 (by omega)]
  congr 1
  exact Prod.ext rfl (List.Sublist.eq_of_length List.filter_sublist (show (e.2.filter (f e)).length=e.2.length by omega))
theorem r6Q {bs:List Box} {rs:List Row} {es:List Ent} (h:U bs rs es≠es):sumL (U bs rs es) < sumL es:=by
 have h1:=m8Q (v1Q bs rs es) es
 rcases Nat.lt_or_ge (sumL (U bs rs es)) (sumL es) with h2 | h2
 ·exact h2
 ·exact absurd (h1.2 (Nat.le_antisymm h1.1 h2)) h
noncomputable def Ui (bs:List Box) (rs:List Row):Nat->List Ent->List Ent
 | 0,es=>es
 | n + 1,es=>U bs rs (Ui bs rs n es)
theorem c4Q {bs:List Box} {rs:List Row} {es:List Ent} {n:Nat} (h:U bs rs (Ui bs rs n es)=Ui bs rs n es):∀ m,Ui bs rs (n + m) es=Ui bs rs n es
 | 0=>rfl
 | m + 1=>by
  show U bs rs (Ui bs rs (n + m) es)=_
  rw [c4Q h m,h]
theorem u6Z {bs:List Box} {rs:List Row} {es:List Ent}:∀ n,U bs rs (Ui bs rs n es)=Ui bs rs n es\/n + 1 + sumL (U bs rs (Ui bs rs n es))<=sumL es
 | 0=>by
  by_cases h:U bs rs es=es
  ·exact .inl h
  ·have:=r6Q h
   refine .inr ?_
   show 0 + 1 + sumL (U bs rs es)<=_
   omega
 | n + 1=>by
  show U bs rs (U bs rs (Ui bs rs n es))=U bs rs (Ui bs rs n es)\/n + 1 + 1 + sumL (U bs rs (U bs rs (Ui bs rs n es)))<=sumL es
  rcases u6Z (bs:=bs) (rs:=rs) (es:=es) n with h | h
  ·exact .inl (by rw [h,h])
  ·by_cases h2:U bs rs (U bs rs (Ui bs rs n es))=U bs rs (Ui bs rs n es)
   ·exact .inl h2
   ·have:=r6Q h2
    exact .inr (by omega)
noncomputable def gr (bs:List Box) (rs:List Row) (es:List Ent):List Ent:=Ui bs rs (sumL es) es
theorem pU (bs:List Box) (rs:List Row) (es:List Ent):U bs rs (gr bs rs es)=gr bs rs es:=by
 rcases u6Z (bs:=bs) (rs:=rs) (es:=es) (sumL es) with h | h
 ·exact h
 ·omega
theorem f0X {bs:List Box} {rs:List Row} {es:List Ent} {n:Nat} (h:U bs rs (Ui bs rs n es)=Ui bs rs n es):Ui bs rs n es=gr bs rs es:=by
 have h1:=c4Q h (sumL es)
 have h2:=c4Q (pU bs rs es) n
 rw [<-h1,Nat.add_comm]
 exact h2
theorem v6Z (bs:List Box) (rs:List Row) (es:List Ent):∀ n,(Ui bs rs n es).map Prod.fst=es.map Prod.fst
 | 0=>rfl
 | n + 1=>(d3X bs rs _).trans (v6Z bs rs es n)
def uJ (es' es:List Ent):Prop:=tX (fun (e' e:Ent)=>e'.1=e.1/\∃ f:Say->Bool,e'.2=e.2.filter fun x=>f x.2) es' es
theorem uJ.refl (es:List Ent):uJ es es:=⟨rfl,fun i x y h1 h2=>by rw [h1] at h2; cases h2; exact ⟨rfl,fun _=>true,(List.filter_eq_self.mpr fun _ _=>rfl).symm⟩⟩
theorem uJ.U {bs:List Box} {rs:List Row} {es' es:List Ent} (h:uJ es' es):uJ (U bs rs es') es:=by
 refine ⟨by unfold K51.U; rw [List.length_map]; exact h.1,fun i x y h1 h2=>?_⟩
 unfold K51.U at h1
 rw [List.getElem?_map] at h1
 obtain ⟨e,he,rfl⟩:=Option.map_eq_some_iff.mp h1
 obtain ⟨e1,f,e2⟩:=h.2 i e y he h2
 exact ⟨e1,fun s=>v1Q bs rs es' e (.non,s) && f s,by show e.2.filter _=_; rw [e2,List.filter_filter]; rfl⟩
theorem s6Q (bs:List Box) (rs:List Row) (es:List Ent):∀ n,uJ (Ui bs rs n es) es
 | 0=>uJ.refl es
 | n + 1=>(s6Q bs rs es n).U
theorem uJ.mem {es' es:List Ent} (h:uJ es' es) {e':Ent} (he:e'∈es'):∃ e∈es,e'.1=e.1/\e'.2.length<=e.2.length/\∀ x∈e'.2,x∈e.2:=by
 obtain ⟨i,hi⟩:=List.mem_iff_getElem?.mp he
 obtain ⟨e,h1,h2,f,h3⟩:=h.at hi
 refine ⟨e,List.mem_of_getElem? h1,h2,?_,fun x hx=>?_⟩
 ·rw [h3]; exact List.length_filter_le _ _
 ·rw [h3] at hx; exact (List.mem_filter.mp hx).1
def spGreatest:Sp:=fun vs H Q _=>∃ (pp pb pr pq:Addr) (us ur:List V) (bs:List Box) (rs:List Row) (G:Hp) (as:List (Addr × Addr)) (es:List Ent),vs=[.ref pp,.ref pq]/\Asks H pp pb pr pq us ur bs rs G as es/\∀ (p:Addr) (as':List (Addr × Addr)) (H':Hp),iQ H H'->kZ H H' p as' (gr bs rs es)->Q (.ref p) H'
section
variable {C:Addr}
theorem zW:yQ ["program","paper","checker","left","unbroken"] ["program","paper"] (gQ vW):=(by wtm_at "f")
theorem kZ.old {G G' H:Hp} {p:Addr} {as:List (Addr × Addr)} {es:List Ent} (h:kZ G' H p as es) (s:iQ G G'):kZ G H p as es:=⟨iQ.free s h.fr,h.at_,h.each.mono fun _ _ ⟨a,b,c,d⟩=>⟨iQ.free s a,iQ.free s b,c,d⟩⟩
theorem n8Q {fI:Addr} {fdI:FuncData} (h:Has K mg "greatest" vW ["program","paper"]) (T:TxC K mg C) (M:Mk K C fI) (bI:mY K fdI ["self","program"] []) (F:gU P w K mg base CX0 21 fI fdI ["self","program"] (b4Q C)) (cU:MCal P w K mg base 7 C "unbroken" ["self","paper"] (vO C)):Cal P w K mg base 23 "greatest" ["program","paper"] spGreatest:=by
 refine h.cal zW (fun vs H Q E h=>?_) (fun f cdv A outer s H vs Q E hr h=>?_)
 ·obtain ⟨_,_,_,_,_,_,_,_,_,_,_,rfl,_⟩:=h
  rfl
 obtain ⟨pp,pb,pr,pq,us,ur,bs,rs,G,as,es,rfl,a,q⟩:=h
 have hr22:sZ (21 + 1) _:=hr
 have hr7:sZ 7 _:=hr.mono (by decide)
 refine ⟨_,(bQ (qQ (i:=2) zW.nd rfl (Or.inl rfl) (j0Z M F hr22 rfl T.mgC bI .nil o0Z (aQ (pv 0) eQ)))
  (bQ (qQ (i:=3) zW.nd rfl (Or.inl rfl) (pv 1))
  (bQ (qQ (i:=4) zW.nd rfl (Or.inl rfl) (pK cU T.cl hr7 (pv 2) (aQ (pv 3) eQ)))
  (bQ (a0Q PassesOwn.never (rQ (n1X hr.units) (pv 4) (pv 3) (nQ _)) (bQ (qQ (i:=3) zW.nd rfl (Or.inl rfl) (pv 4)) (fQ (qQ (i:=4) zW.nd rfl (Or.inl rfl) (pK cU T.cl hr7 (pv 2) (aQ (pv 3) eQ))))))
  (fQ (oQ (pv 4))))))),?_⟩
 refine ⟨_,rfl,fun x dx hx hdx ne=>?_⟩
 have s1:iQ H (upd (upd H dx (.own x)) x (.ins C dx [])):=fun c o e=>by rw [kQ (jQ e hx),kQ (jQ e hdx)]; exact e
 refine ⟨x,dx,pp,pb,pr,us,ur,bs,rs,rfl,dQ,a.P.same s1,a.O,a.nd,fun pe pf pn pk full uv kf kn f0 H2 hpk b2 M2 fu f2 C2 B2 n2 nx2=>⟨rfl,?_⟩⟩
 have s2:iQ H H2:=fun c o e=>b2 c o (jQ e hx) (s1 _ _ e)
 have hs0:=a.s
 have hsum:=sum2 a.s
 have n60:=Nat.le_trans (wK rs) a.O.l60
 have Hpk:H pk=none:=iQ.free s1 hpk
 refine ⟨_,rfl,?_⟩
 refine ⟨_,rfl,x,dx,_,rfl,M2.i,a4Q _ _ _ _ _ (by decide +kernel),_,rfl,x,dx,pe,pf,pn,pk,pq,full,uv,wZ bs,[],bs.length,mks rs,kf,kn,f0,_,CnP bs rs,G,as,es,rfl,M2,fu,n60,f2,C2,B2,n2,fun e he=>nx2 _ (a.e e he).1,a.A.same s2,fun e he=>(a.e e he).2,a.l,by rw [lV]; exact a.O.vol,z3Q a.P.ok,by rw [List.length_nil]; omega,fun p as' H3 kv' b3 A3 M3 k3=>?_⟩
 rw [List.length_nil] at k3
 refine ⟨fun m σ H'=>∃ (pu pl:Addr) (asu asl:List (Addr × Addr)) (n:Nat) (Gl Gu:Hp) (kv:List (List Key × V)),σ=[some (.ref pp),some (.ref pq),some (.ref x),some (.ref pl),some (.ref pu)]/\m=sumL (Ui bs rs n es)/\n + m<=sumL es/\But pk H2 H'/\iW H' C x dx pe (full:Nat) pf pn pk uv (wZ bs) kv/\kv.length<=2 * sumL es * (n + 1)/\kZ Gl H' pl asl (Ui bs rs n es)/\kZ Gu H' pu asu (U bs rs (Ui bs rs n es))/\iQ H Gu/\(∀ a∈asl,Gu a.1≠none/\Gu a.2≠none),⟨sumL es,p,pq,as',as,0,G,H2,kv',rfl,rfl,by omega,b3,M3,by omega,?_,A3,s2,y0Q (a.A.same s2)⟩,?_⟩
 ·exact (a.A.same s2).butK M2 b3
 rintro m σ H4 ⟨pu,pl,asu,asl,n,Gl,Gu,kv4,rfl,hm,hn,b4,M4,k4,Al,Au,su,hh⟩
 refine ⟨_,rfl,_,rfl,t5Q Au Al hh not ⟨_,rfl,?_⟩⟩
 have s4:iQ H H4:=fun c o e=>b4 c o (jQ e Hpk) (s2 _ _ e)
 rcases Bool.eq_false_or_eq_true (isR bs rs (Ui bs rs n es)) with hb | hb
 ·refine nJ (by rw [hb]; rfl) ⟨_,rfl,q pu asu H4 s4 ?_⟩
  have he:=zK.mp hb
  have:=Au.old su
  rw [he,f0X he] at this
  exact this
 ·have hne:U bs rs (Ui bs rs n es)≠Ui bs rs n es:=fun z=>by rw [zK.mpr z] at hb; cases hb
  have hlt:=r6Q hne
  have hp:=s6Q bs rs es (n + 1)
  have hlen:(Ui bs rs (n + 1) es).length=es.length:=hp.1
  have hsl:sumL (Ui bs rs (n + 1) es) < m:=by rw [hm]; exact hlt
  have hmul:2 * sumL es * (n + 1) + 2 * sumL (Ui bs rs (n + 1) es)<=2 * sumL es * (n + 2):=by
   rw [show n + 2=n + 1 + 1 by omega,Nat.mul_succ (2 * sumL es) (n + 1)]
   omega
  have hmul2:2 * sumL es * (n + 2)<=90000:=Nat.le_trans (Nat.mul_le_mul_left _ (by omega)) hs0
  refine rV (by rw [hb]; rfl) ⟨_,fun σ' H' hN=>⟨sumL (Ui bs rs (n + 1) es),hsl,hN⟩,⟨_,rfl,?_⟩⟩
  refine ⟨_,rfl,x,dx,_,rfl,M4.i,a4Q _ _ _ _ _ (by decide +kernel),_,rfl,x,dx,pe,pf,pn,pk,pu,full,uv,wZ bs,kv4,bs.length,mks rs,kf,kn,f0,_,CnP bs rs,Gu,asu,Ui bs rs (n + 1) es,rfl,M4,fu,n60,b4 _ _ (M2.nk f2 (fun _ z=>nomatch z)) f2,C2,B2,b4 _ _ (M2.nk n2 (fun _ z=>nomatch z)) n2,fun e' h'=>?_,Au,fun e' h'=>?_,by rw [hlen]; exact a.l,by rw [lV]; exact a.O.vol,z3Q a.P.ok,by omega,fun p5 as5 H5 kv5 b5 A5 M5 k5=>?_⟩
  ·obtain ⟨e,he,h1,_⟩:=hp.mem h'
   rw [h1]
   exact (nx2 _ (a.e e he).1).butK M2 b4
  ·obtain ⟨e,he,_,h2,h3⟩:=hp.mem h'
   obtain ⟨_,g2,g3⟩:=a.e e he
   exact ⟨Nat.le_trans h2 g2,fun x hx=>g3 x (h3 x hx)⟩
  ·exact ⟨p5,pu,as5,asu,n + 1,Gu,H4,kv5,rfl,rfl,by omega,b4.trans b5,M5,Nat.le_trans k5 (Nat.le_trans (Nat.add_le_add_right k4 _) hmul),Au.butK M4 b5,A5,s4,y0Q Au⟩
end
def spLMarks:Sp:=fun vs H Q _=>∃ (pp pr:Addr) (pw:V) (us:List V) (rs:List Row),vs=[.ref pp]/\H pp=some (.tup [pw,.ref pr])/\H pr=some (.lst us)/\tX (lW H) us rs/\rs.length<=60/\∀ (p:Addr) (H':Hp),H p=none->iQ H H'->H' p=some (.lst ((mks rs).map V.str))->Q (.ref p) H'
def spDrawn:Sp:=fun vs H Q _=>∃ (pd pp pb pr:Addr) (ds:List Int) (us ur:List V) (bs:List Box) (rs:List Row) (spot most:Nat),vs=[.ref pd,.int (spot:Nat),.int (most:Nat),.ref pp]/\most<=12/\H pd=some (.lst (ds.map V.int))/\spot + 4 + 6 * most<=ds.length/\spot<=1000/\SmD ds/\bX H pp pb pr us ur bs rs/\1<=bs.length/\bs.length<=3/\rs.length<=60/\(mks rs).length<=3 /\
 ∀ (p:Addr) (as:List (Addr × Addr)) (es:List Ent) (H':Hp),iQ H H'->kZ H H' p as es->es.map Prod.fst=mks rs->(∀ e∈es,e.2.length<=most/\∀ x∈e.2,x.2.In bs.length/\ROk x.2)->Q (.ref p) H'
section
theorem w6Z:yQ ["program"] ["program"] (gQ uO):=(by wtm_at "f")
theorem m3Z (h:Has K mg "_law_marks" uO ["program"]):Cal P w K mg base 1 "_law_marks" ["program"] spLMarks:=by
 refine h.cal w6Z (fun vs H Q E h=>?_) (fun f cdv A outer s H vs Q E hr h=>?_)
 ·obtain ⟨_,_,_,_,_,rfl,_⟩:=h
  rfl
 obtain ⟨pp,pr,pw,us,rs,rfl,hpp,R,each,l60,q⟩:=h
 refine ⟨_,(fQ (oQ (nY (gQ uO) ["program"] (N:=["row"]) (ix:=[none]) rfl (by wtm_at "g") (xZ (mQ pQ (pv 0) cQ (fun _ _=>rfl))) (fun _ _ _ _=>uQ (i:=0) (show (["row"]:List Str).Nodup by decide +kernel) rfl (Or.inl rfl)) (fun _ _ _ _=>(e2Q (rQ aZ (mQ (ixt K) (pv 0) cQ (fun _ _=>rfl)) tQ (nQ _)))) (fun _ _ _ _=>(mQ (ixt K) (pv 0) cQ (fun _ _=>rfl)))))),?_⟩
 have hl:=each.1
 refine ⟨_,rfl,pp,_,((1:Nat):Int),_,rfl,rfl,SqT.of hpp,rfl,pr,rfl,⟨_,SqL.of R⟩,fun D hD=>?_⟩
 refine qV (K:=K) (a:=pr) (xs:=us) (fun i ys σ H2=>(∃ c0:Option V,σ=[c0])/\ys=(mks (rs.take i)).map V.str/\H2 D=some (.lst ys)/\iQ H H2)
  ⟨⟨none,rfl⟩,rfl,dQ,iQ.new hD _⟩ (fun i ys σ H2 _ hh=>SqL.of (hh.2.2.2 _ _ R)) ?_ ?_
 ·rintro i x ys σ H2 hi ⟨⟨c0,rfl⟩,rfl,h2,s2⟩
  obtain ⟨r,hr',hR⟩:=each.at hi
  obtain ⟨p,xs,rfl,hp⟩:=hR.head
  have il:i < rs.length:=(List.getElem?_eq_some_iff.mp hr').1
  have et:mks (rs.take (i + 1))=mks (rs.take i)++mks [r]:=by unfold mks; rw [List.take_add_one,hr',List.filterMap_append]; rfl
  cases er:r.nm with
  | none =>
   refine ⟨_,rfl,p,_,((0:Nat):Int),_,rfl,rfl,SqT.of (s2 _ _ hp),at0,rfl,_,rfl,nJ (by rw [dec_str]; exact decide_eq_false (Row.nm_none er)) ?_⟩
   have e0:mks [r]=[]:=by unfold mks; rw [List.filterMap_cons,er]; rfl
   exact ⟨⟨_,rfl⟩,by rw [et,e0,List.append_nil],h2,s2⟩
  | some z =>
   obtain rfl:=Row.nm_some er
   obtain ⟨p',e',hp'⟩:=hR
   cases e'
   have hp':H p=some (.tup [.str "mark",.str z]):=hp'
   refine ⟨_,rfl,p,_,((0:Nat):Int),_,rfl,rfl,SqT.of (s2 _ _ hp'),rfl,rfl,_,rfl,rV (by decide +kernel) ?_⟩
   refine ⟨_,rfl,p,_,((1:Nat):Int),_,rfl,rfl,SqT.of (s2 _ _ hp'),rfl,h2,eZ (by rw [List.length_map]; have:=wK (rs.take i); rw [List.length_take] at this; omega),⟨_,rfl⟩,?_,dQ,fun a o e=>by rw [kQ (jQ e hD)]; exact s2 _ _ e⟩
   rw [et,List.map_append]
   rfl
 rintro ys σ H2 ⟨_,rfl,h2,s2⟩
 rw [hl,List.take_length] at h2
 exact q D H2 hD s2 h2
theorem aU:yQ ["d","spot","most","program","paper","k","mark","some","j","at"] ["d","spot","most","program"] (gQ k1Q):=(by wtm_at "f")
theorem x6Z (h:Has K mg "_law_drawn" k1Q ["d","spot","most","program"]) (B:Blt mg) (cM:Cal P w K mg base 1 "_law_marks" ["program"] spLMarks) (cS:Cal P w K mg base 2 "_law_saying" ["x","y","boxes"] spSayingD):Cal P w K mg base 3 "_law_drawn" ["d","spot","most","program"] spDrawn:=by
 refine h.cal aU (fun vs H Q E h=>?_) (fun f cdv A outer s H vs Q E hr h=>?_)
 ·obtain ⟨_,_,_,_,_,_,_,_,_,_,_,rfl,_⟩:=h
  rfl
 obtain ⟨pd,pp,pb,pr,ds,us,ur,bs,rs,spot,most,rfl,mo,hD,dl,sp,sd,PG,l1,l3,l60,m2,q⟩:=h
 have hpp:=PG.prog
 have X:=PG.boxes
 have ok:=PG.ok
 have hr2:sZ 2 _:=hr
 have hr1:sZ 1 _:=hr.mono (by decide)
 refine ⟨_,(bQ (qQ (i:=4) aU.nd rfl (Or.inl rfl) (jX eQ))
  (bQ (uZ PassesOwn.never rfl (e6Q rfl B.enumerate (aQ (wQ cM hr1 rfl (aQ (pv 3) eQ)) eQ)) (jK rfl (jZ (uQ (i:=5) aU.nd rfl (Or.inl rfl)) (jZ (uQ (i:=6) aU.nd rfl (Or.inl rfl)) dJ))) (bQ (qQ (i:=7) aU.nd rfl (Or.inl rfl) (jX eQ))
  (bQ (uZ PassesOwn.never rfl (qJ rfl B.range (aQ (lQ gZ (mQ zQ (pv 0) (lQ hZ (pv 1) (pv 5)) (fun _ _=>rfl)) (lQ hZ (pv 2) cQ)) eQ)) (uQ (i:=8) aU.nd rfl (Or.inl rfl)) (bQ (qQ (i:=9) aU.nd rfl (Or.inl rfl) (lQ hZ (lQ hZ (pv 1) cQ) (lQ aJ cQ (lQ hZ (lQ aJ (pv 2) (pv 5)) (pv 8)))))
  (fQ (lX (iV PySem.F.plainAttrs_list PySem.F.slot_list_append PySem.F.type_list_append iX (pv 7) (aQ (wQ cS hr2 rfl (aQ (mQ zQ (pv 0) (pv 9) (fun _ _=>rfl)) (aQ (mQ zQ (pv 0) (lQ hZ (pv 9) cQ) (fun _ _=>rfl)) (aQ (mQ pQ (pv 3) cQ (fun _ _=>rfl)) eQ)))) eQ))))))
  (fQ (lX (iV PySem.F.plainAttrs_list PySem.F.slot_list_append PySem.F.type_list_append iX (pv 4) (aQ (iZ (aQ (pv 6) (aQ (pv 7) eQ))) eQ)))))))
  (fQ (oQ (pv 4))))),?_⟩
 refine ⟨(by show 0<=sizeLine; decide),fun pa ha=>?_⟩
 have s1:=iQ.new ha (.lst [])
 have a1:upd H pa (.lst []) pa=some (.lst []):=dQ
 generalize upd H pa (.lst [])=H1 at *
 refine ⟨_,rfl,pp,pr,_,ur,rs,rfl,s1 _ _ hpp,s1 _ _ PG.ro,PG.each.mono (fun _ _ z=>z.same s1),l60,fun pm H2 hpm s2 hm2=>?_⟩
 have s02:=s1.trans s2
 obtain ⟨ms,ems⟩:∃ ms,ms=mks rs:=⟨_,rfl⟩
 rw [<-ems] at hm2 m2 q
 have pma:pm≠pa:=fun z=>by rw [z,a1] at hpm; cases hpm
 have dat:∀ {H':Hp},iQ H H'->∀ {i:Nat},i < ds.length->∃ x:Int,SqL K H' pd (ds.map V.int)/\atI (ds.map V.int) ((i:Nat):Int)=some (.int x)/\0<=x/\x < 10007:=fun s' i hi=>by
  obtain ⟨x,e1,_,e3,e4⟩:=d_at sd (i:=i) (by omega)
  exact ⟨x,SqL.of (s' _ _ hD),e1,e3,e4⟩
 refine ⟨pm,rfl,⟨_,hm2⟩,e3Q (a:=pm) (xs:=ms.map V.str) (fun i σ H'=>∃ (as:List (Addr × Addr)) (es:List Ent) (c5 c6 c7 c8 c9:Option V),σ=[some (.ref pd),some (.int (spot:Nat)),some (.int (most:Nat)),some (.ref pp),some (.ref pa),c5,c6,c7,c8,c9]/\kZ H H' pa as es/\es.map Prod.fst=ms.take i/\(∀ e∈es,e.2.length<=most/\∀ x∈e.2,x.2.In bs.length/\ROk x.2)/\H' pm=some (.lst (ms.map V.str))/\iQ H H')
  ⟨[],[],none,none,none,none,none,rfl,⟨ha,s2 _ _ a1,⟨rfl,fun i x y h=>nomatch h⟩⟩,rfl,(fun e he=>nomatch he),hm2,s02⟩ (fun i σ H' _ hh=>by obtain ⟨_,_,_,_,_,_,_,_,_,_,_,e,_⟩:=hh; exact e) ?_ ?_⟩
 ·rintro i x σ H3 T hi ⟨as,es,c5,c6,c7,c8,c9,rfl,A3,em,eo,h3m,s3⟩ hT
  rw [List.getElem?_map] at hi
  obtain ⟨mark,hmk,rfl⟩:=Option.map_eq_some_iff.mp hi
  have il:i < ms.length:=(List.getElem?_eq_some_iff.mp hmk).1
  have al:=A3.each.1
  have el:es.length=i:=by have:=congrArg List.length em; rw [List.length_map,List.length_take] at this; omega
  have sT:=iQ.new hT (.tup [.int (i:Nat),.str mark])
  have A4:=A3.same sT
  have h4m:=sT _ _ h3m
  have s4:=s3.trans sT
  refine ⟨T,_,rfl,SqT.of dQ,rfl,_,_,rfl,_,_,rfl,rfl,?_⟩
  generalize upd H3 T (.tup [.int (i:Nat),.str mark])=H4 at *
  refine ⟨(by show 0<=sizeLine; decide),fun ps hps=>?_⟩
  have ss:=iQ.new hps (.lst [])
  have A5:=A4.same ss
  have h5m:=ss _ _ h4m
  have s5:=s4.trans ss
  have p5:upd H4 ps (.lst []) ps=some (.lst (([]:List (V × Say)).map Prod.fst)):=dQ
  have psa:ps≠pa:=fun z=>by rw [z,A4.at_] at hps; cases hps
  have psm:ps≠pm:=fun z=>by rw [z,h4m] at hps; cases hps
  have psH:H ps=none:=iQ.free s4 hps
  have hne:∀ (k:Nat) (a:Addr × Addr),as[k]?=some a->a.2≠ps:=fun k a hk z=>by
   obtain ⟨e,_,_,_,_,E⟩:=A4.each.at hk
   have:=E.l
   rw [z,hps] at this
   cases this
  generalize upd H4 ps (.lst [])=H5 at *
  obtain ⟨x0,q0,a0,x00,x01⟩:=dat s5 (i:=spot + i) (by omega)
  have mx:=pZ (a:=x0) (n:=(most:Int) + 1) (by omega)
  refine ⟨_,rfl,_,rfl,_,rfl,_,_,rfl,rfl,pd,_,_,_,rfl,rfl,q0,a0,_,rfl,_,_,rfl,rfl,_,_,rfl,rfl,(by omega:(0:Int) < (most:Int) + 1),_,rfl,by show -(2 ^ 62)<=x0 % ((most:Int) + 1); omega,by show x0 % ((most:Int) + 1) < 2 ^ 62; omega,?_⟩
  refine oW (lo:=0) (n:=(x0 % ((most:Int) + 1)).toNat) (fun j σ H'=>∃ (xs:List (V × Say)) (c8 c9:Option V),σ=[some (.ref pd),some (.int (spot:Nat)),some (.int (most:Nat)),some (.ref pp),some (.ref pa),some (.int (i:Nat)),some (.str mark),some (.ref ps),c8,c9]/\H' ps=some (.lst (xs.map Prod.fst))/\xs.length=j/\(∀ x∈xs,mV H' x.1 x.2/\x.2.In bs.length/\ROk x.2)/\kZ H H' pa as es/\H' pm=some (.lst (ms.map V.str))/\iQ H H')
   ⟨[],c8,c9,rfl,p5,rfl,(fun x hx=>nomatch hx),A5,h5m,s5⟩ ?_ ?_
  ·rintro j σ H6 hj ⟨xs,c8,c9,rfl,h6,xl,xo,A6,h6m,s6⟩
   have e0:(0 + (j:Int))=(j:Int):=by omega
   rw [e0]
   have at_:((spot:Nat):Int) + 4 + 2 * ((most:Int) * (i:Int) + (j:Int))=((spot + 4 + 2 * (most * i + j):Nat):Int):=by push_cast; omega
   have mi:most * i<=most * 2:=Nat.mul_le_mul_left _ (by omega)
   refine ⟨_,rfl,_,_,rfl,rfl,_,rfl,_,rfl,_,_,rfl,rfl,cm (by omega) (by omega),_,rfl,_,_,rfl,rfl,_,_,rfl,rfl,cm (by decide) (by decide),_,_,rfl,rfl,?_⟩
   show fX 9 (V.int (((spot:Nat):Int) + 4 + 2 * ((most:Int) * (i:Int) + (j:Int)))) _ _ _
   rw [at_]
   obtain ⟨y0,r0,b0,y00,_⟩:=dat s6 (i:=spot + 4 + 2 * (most * i + j)) (by omega)
   obtain ⟨y1,r1,b1,y10,_⟩:=dat s6 (i:=spot + 4 + 2 * (most * i + j) + 1) (by omega)
   refine ⟨_,rfl,.inl ⟨rfl,_,SqL.of h6⟩,_,rfl,_,rfl,pd,_,_,_,rfl,rfl,r0,b0,_,rfl,_,rfl,_,_,rfl,rfl,pd,_,_,_,rfl,rfl,r1,b1,_,rfl,pp,_,((0:Nat):Int),_,rfl,rfl,SqT.of (s6 _ _ hpp),rfl,y0,y1,pb,us,bs,rfl,X.same s6,ok,l1,l3,y00,y10,fun p o H7 hp s7 ho io ro=>?_⟩
   have h7:=s7 _ _ h6
   have A7:=A6.same s7
   refine ⟨ps,_,_,rfl,rfl,h7,eZ (by rw [List.length_map]; omega),?_⟩
   have s8:iQ H (upd H7 ps (.lst (xs.map Prod.fst++[.ref p]))):=fun c o e=>by rw [kQ (jQ e psH)]; exact (s6.trans s7) _ _ e
   refine ⟨xs++[(.ref p,o)],_,_,rfl,by rw [dQ,List.map_append]; rfl,by rw [List.length_append,xl]; rfl,fun x hx=>?_,⟨A7.fr,by rw [kQ psa.symm]; exact A7.at_,?_⟩,by rw [kQ psm.symm]; exact s7 _ _ h6m,s8⟩
   ·rcases List.mem_append.mp hx with h1 | h1
    ·obtain ⟨g1,g2,g3⟩:=xo x h1
     exact ⟨(g1.same s7).put h7,g2,g3⟩
    ·rw [List.mem_singleton.mp h1]
     exact ⟨mV.put ⟨p,rfl,ho⟩ h7,io,ro⟩
   ·refine ⟨A7.each.1,fun k a e hk he=>?_⟩
    obtain ⟨g1,g2,g3,g4⟩:=A7.each.2 k a e hk he
    exact ⟨g1,g2,g3,g4.put h7 (hne k a hk)⟩
  rintro σ H6 ⟨xs,c8,c9,rfl,h6,xl,xo,A6,h6m,s6⟩
  refine ⟨_,rfl,.inl ⟨rfl,_,SqL.of A6.at_⟩,_,rfl,_,rfl,(by show 2<=sizeLine; decide),fun t ht=>?_⟩
  have st:=iQ.new ht (.tup [.str mark,.ref ps])
  have t7:upd H6 t (.tup [.str mark,.ref ps]) t=some (.tup [.str mark,.ref ps]):=dQ
  have A7:=A6.same st
  have h7:=st _ _ h6
  have s7:=s6.trans st
  have h7m:=st _ _ h6m
  have tH:H t=none:=iQ.free s6 ht
  refine ⟨pa,_,_,rfl,rfl,A7.at_,eZ (by rw [List.length_map]; omega),?_⟩
  have al6:=A6.each.1
  have E7:jJ (upd H6 t (.tup [.str mark,.ref ps])) t ps (mark,xs):=⟨t7,h7,fun x hx=>(xo x hx).1.same st⟩
  refine ⟨as++[(t,ps)],es++[(mark,xs)],_,_,_,_,_,rfl,⟨A7.fr,by rw [dQ,List.map_append]; rfl,pJ (A7.each.mono fun a e h=>⟨h.1,h.2.1,h.2.2.1,h.2.2.2.put A7.at_ h.2.2.1⟩) ⟨rfl,fun k x y hx hy=>?_⟩⟩,?_,fun e he=>?_,by rw [kQ pma]; exact h7m,fun c o e=>by rw [kQ (jQ e ha)]; exact s7 _ _ e⟩
  ·match k,hx,hy with
   | 0,rfl,rfl=>exact ⟨tH,psH,psa,E7.put A7.at_ psa⟩
  ·rw [List.map_append,em,List.take_add_one,hmk]
   rfl
  ·rcases List.mem_append.mp he with h1 | h1
   ·exact eo e h1
   ·rw [List.mem_singleton.mp h1]
    exact ⟨by show xs.length<=most; omega,fun x hx=>(xo x hx).2⟩
 rintro σ H3 ⟨as,es,c5,c6,c7,c8,c9,rfl,A3,em,eo,h3m,s3⟩
 rw [List.length_map,List.take_length] at em
 exact ⟨_,rfl,q pa as es H3 s3 A3 em eo⟩
end
def lngf (vs:List (List Int)) (b:Box) (k:Nat):List Int:=vs.getD (k / b.size) []++[b.lo + ((k % b.size:Nat):Int)]
theorem y6Z (b:Box) (hb:0 < b.size):∀ vs:List (List Int),(List.range (vs.length * b.size)).map (lngf vs b)=zZ vs b
 | []=>by simp [zZ]
 | v :: r=>by
  have ih:=y6Z b hb r
  have e1:zZ (v :: r) b=(rng b).map (fun n=>v++[n])++zZ r b:=by unfold zZ; rw [List.flatMap_cons]
  rw [e1,<-ih,List.length_cons,Nat.succ_mul,Nat.add_comm,List.range_add,List.map_append,List.map_map]
  congr 1
  ·unfold rng
   rw [List.map_map]
   refine List.map_congr_left fun k hk=>?_
   have hk:=List.mem_range.mp hk
   show lngf (v :: r) b k=v++[b.lo + (k:Nat)]
   unfold lngf
   rw [Nat.div_eq_of_lt hk,Nat.mod_eq_of_lt hk]
   rfl
  ·refine List.map_congr_left fun k _=>?_
   show lngf (v :: r) b (b.size + k)=lngf r b k
   unfold lngf
   rw [Nat.add_div_left k hb,Nat.add_mod_left]
   rfl
def spValues:Sp:=fun vs H Q _=>∃ (pb:Addr) (us:List V) (bs:List Box),vs=[.ref pb]/\gJ H pb us bs/\(∀ b∈bs,b.Ok)/\bs.length<=4/\vol bs<=400/\∀ (p:Addr) (us':List V) (H':Hp),H p=none->iQ H H'->mJ H' p us' (wZ bs)->Q (.ref p) H'
section
theorem qU:yQ ["boxes","found","box","size"] ["boxes"] (gQ sK):=(by wtm_at "f")
theorem n3Z (h:Has K mg "_law_values" sK ["boxes"]) (B:Blt mg):Cal P w K mg base 1 "_law_values" ["boxes"] spValues:=by
 refine h.cal qU (fun vs H Q E h=>?_) (fun f cdv A outer s H vs Q E hr h=>?_)
 ·obtain ⟨_,_,_,rfl,_⟩:=h
  rfl
 obtain ⟨pb,us,bs,rfl,X,ok,h4,hv,q⟩:=h
 refine ⟨_,(bQ (qQ (i:=1) qU.nd rfl (Or.inr rfl) (jX (aQ (iZ eQ) eQ)))
  (bQ (uZ PassesOwn.never rfl (xZ (pv 0)) (uQ (i:=2) qU.nd rfl (Or.inr rfl)) (bQ (qQ (i:=3) qU.nd rfl (Or.inr rfl) (lQ hZ (lQ eJ (mQ pQ (pv 2) cQ (fun _ _=>rfl)) (mQ pQ (pv 2) cQ (fun _ _=>rfl))) cQ))
  (fQ (qQ (i:=1) qU.nd rfl (Or.inr rfl) (nY (gQ sK) ["boxes","found","box","size"] (N:=["k","found","size","box"]) (ix:=[none,some 1,some 3,some 2]) rfl (by wtm_at "g") (qJ rfl B.range (aQ (lQ aJ (bZ dZ rfl B.len pX (aQ (pv 1) eQ)) (pv 3)) eQ)) (fun _ _ _ _=>uQ (i:=0) (show (["k","found","size","box"]:List Str).Nodup by decide +kernel) rfl (Or.inl rfl)) (fun _ _ _ _=>bW) (fun _ _ _ _=>(lQ f2Q (mQ (ixl K) (pv 1) (lQ nX (pv 0) (pv 2)) (fun _ _=>rfl)) (iZ (aQ (lQ hZ (mQ (ixt K) (pv 3) cQ (fun _ _=>rfl)) (lQ gZ (pv 0) (pv 2))) eQ)))))))))
  (fQ (oQ (pv 1))))),?_⟩
 refine ⟨(by show 0<=sizeLine; decide),fun pt hpt=>?_⟩
 have s1:=iQ.new hpt (.tup [])
 refine ⟨(by show 1<=sizeLine; decide),fun pl hpl=>?_⟩
 have s2:=iQ.new hpl (.lst [.ref pt])
 have s12:=s1.trans s2
 refine ⟨_,rfl,pb,rfl,⟨us,SqL.of (s12 _ _ X.at_)⟩,kX (K:=K) (a:=pb) (xs:=us) (fun i σ H2=>∃ (p:Addr) (us':List V) (c2 c3:Option V),σ=[some (.ref pb),some (.ref p),c2,c3]/\H p=none/\mJ H2 p us' ((bs.take i).foldl zZ [[]])/\iQ H H2)
  ⟨pl,[.ref pt],none,none,rfl,iQ.free s1 hpl,⟨dQ,⟨rfl,fun i x y e1 e2=>?_⟩⟩,s12⟩ (fun i σ H2 _ ⟨_,_,_,_,_,_,_,s2⟩=>SqL.of (s2 _ _ X.at_)) ?_ ?_⟩
 ·rcases i with _ | i
  ·cases e1
   cases e2
   exact ⟨pt,rfl,s2 _ _ dQ⟩
  ·simp at e1
 ·rintro i x σ H2 hi ⟨p,us',c2,c3,rfl,hpf,X2,s2⟩
  obtain ⟨b,hb,pq,rfl,hpq⟩:=X.each.at hi
  have hbm:=List.mem_of_getElem? hb
  have okb:=ok b hbm
  have b1:=okb.fl
  have b2:=okb.fh
  have b3:=okb.lo
  have b4:=okb.hi
  have b5:=okb.w
  have efs:=l5Q hb
  have hp2:=s2 _ _ hpq
  have f4:=x7Q ok hb hv
  have fsh:=m3Q ok h4 i
  generalize (bs.take i).foldl zZ [[]]=vs at *
  have ul:=X2.each.1
  have es:b.hi - b.lo + 1=((b.size:Nat):Int):=by unfold Box.size; omega
  have bp:0 < b.size:=by unfold Box.size; omega
  have b20:b.size<=20:=by unfold Box.size; omega
  refine ⟨_,rfl,pq,_,((2:Nat):Int),_,rfl,rfl,SqT.of hp2,rfl,_,rfl,pq,_,((1:Nat):Int),_,rfl,rfl,SqT.of hp2,rfl,_,_,rfl,rfl,_,_,rfl,rfl,?_⟩
  show fX 3 (V.int (b.hi - b.lo + 1)) _ _ _
  rw [es]
  have em:((us'.length:Nat):Int) * ((b.size:Nat):Int)=((vs.length * b.size:Nat):Int):=by rw [Int.natCast_mul,ul]
  refine ⟨_,rfl,p,us',rfl,.inl (SqL.of X2.at_),_,rfl,_,_,rfl,rfl,cm (by omega) (by have:us'.length<=400:=by { rw [ul]; exact Nat.le_trans (Nat.le_mul_of_pos_right _ bp) f4 }; omega),_,rfl,by rw [em]; omega,by rw [em]; omega,fun D hD=>?_⟩
  rw [em]
  refine b3Q (lo:=0) (n:=(((vs.length * b.size:Nat):Int)).toNat) (fun k ys σ H3=>(∃ c0:Option V,σ=[c0,some (.ref p),some (.int ((b.size:Nat):Int)),some (.ref pq)])/\tX (mO H3) ys (((List.range (vs.length * b.size)).map (lngf vs b)).take k)/\H3 D=some (.lst ys)/\iQ H2 H3)
   ⟨⟨none,rfl⟩,⟨rfl,fun i x y h=>nomatch h⟩,dQ,iQ.new hD _⟩ ?_ ?_
  ·rintro k ys σ H3 hk ⟨⟨c0,rfl⟩,A3,h3,s3⟩
   have hk:k < vs.length * b.size:=by omega
   have e0:(0 + (k:Int))=(k:Int):=by omega
   rw [e0]
   have kd:k / b.size < vs.length:=Nat.div_lt_of_lt_mul (by rw [Nat.mul_comm]; exact hk)
   obtain ⟨u,v,hu1,hv1,pv1,rfl,hpv⟩:=X2.each.get (i:=k / b.size) (by omega)
   have hvl:=fsh v (List.mem_of_getElem? hv1)
   have hat:atI us' ((k:Int) / ((b.size:Nat):Int))=some (.ref pv1):=by
    rw [<-Int.natCast_ediv]
    exact oX hu1
   have p3:=s3 _ _ hpv
   refine d3Q ⟨_,rfl,_,rfl,_,rfl,_,_,rfl,rfl,⟨by omega,by omega⟩,p,_,_,_,rfl,rfl,SqL.of (s3 _ _ X2.at_),hat,_,rfl,pq,_,((1:Nat):Int),_,rfl,rfl,SqT.of (s3 _ _ hp2),rfl,_,rfl,_,rfl,_,_,rfl,rfl,(show (0:Int) < ((b.size:Nat):Int) by omega),_,_,rfl,rfl,(by show 1<=sizeLine; decide),fun t ht=>?_⟩
   have st:=iQ.new ht (.tup [.int (b.lo + (k:Int) % ((b.size:Nat):Int))])
   refine ⟨pv1,t,_,_,rfl,rfl,st _ _ p3,dQ,Nat.le_trans (by rw [List.length_map]; show v.length + 1<=100000; omega) (h2Q (Nat.le_refl _)),fun pc H5 s5 e5=>?_⟩
   have s35:=st.trans s5
   have h5:=s35 _ _ h3
   have yl:=A3.1
   rw [List.length_take,List.length_map,List.length_range,Nat.min_eq_left (by omega)] at yl
   refine ⟨h5,eZ (by omega),⟨_,rfl⟩,?_,dQ,fun c o e=>by rw [kQ (jQ e hD)]; exact s35 _ _ (s3 _ _ e)⟩
   have keep:∀ {c:Addr} {xs:List V},H5 c=some (.tup xs)->upd H5 D (.lst (ys++[.ref pc])) c=some (.tup xs):=fun h=>by
    rw [kQ (fun z=>by rw [z,h5] at h; cases h)]
    exact h
   rw [List.take_add_one,List.getElem?_map,List.getElem?_range hk]
   refine pJ (A3.mono fun _ _ ⟨p,e,h⟩=>⟨p,e,keep (s35 _ _ h)⟩) ⟨rfl,fun m x y hx hy=>?_⟩
   match m,hx,hy with
   | 0,rfl,rfl =>
    refine ⟨pc,rfl,keep ?_⟩
    rw [e5]
    unfold lngf
    rw [List.getD_eq_getElem?_getD,hv1,List.map_append,Int.natCast_emod]
    rfl
  ·rintro ys σ H3 ⟨_,A3,h3,s3⟩
   rw [Int.toNat_natCast,List.take_of_length_le (by rw [List.length_map,List.length_range]; exact Nat.le_refl _),y6Z b bp] at A3
   refine ⟨D,ys,_,_,rfl,iQ.free s2 hD,?_,s2.trans s3⟩
   rw [efs]
   exact ⟨h3,A3⟩
 ·rintro σ H2 ⟨p,us',c2,c3,rfl,hpf,X2,s2⟩
  rw [X.each.1,List.take_length] at X2
  exact ⟨_,rfl,q p us' H2 hpf s2 X2⟩
end
theorem t6Q {κ:Type} [DecidableEq κ] {kvs:List (κ × V)} {k:κ} {x:V} (h:vZ kvs k=some x):(k,x)∈kvs:=by
 unfold vZ at h
 obtain ⟨kv,e,rfl⟩:=Option.map_eq_some_iff.mp h
 have h0:=List.find?_some e
 have h1:kv.1=k:=of_decide_eq_true h0
 have h2:=List.mem_of_find?_eq_some e
 rw [<-h1]; exact h2
theorem d9Z {rs:List Row} {r:Nat} {z:Str} (nd:(mks rs).Nodup) (hz:rs[r]?=some (.mark z)):vZ (mpl rs 0) (Sum.inr z:Key)=some (.int (r:Nat)):=by
 cases e:vZ (mpl rs 0) (Sum.inr z:Key) with
 | none =>
  have h1:(vZ (mpl rs 0) (Sum.inr z:Key)).isSome=true:=by
   rw [<-xJ]
   have hm:(Sum.inr z:Key)∈(mpl rs 0).map (·.1):=by
    rw [nU]
    exact List.mem_map.mpr ⟨z,List.mem_filterMap.mpr ⟨_,List.mem_of_getElem? hz,rfl⟩,rfl⟩
   obtain ⟨kv,hkv,e⟩:=List.mem_map.mp hm
   exact List.any_eq_true.mpr ⟨kv,hkv,decide_eq_true e⟩
  rw [e] at h1
  cases h1
 | some x =>
  obtain ⟨i,hi⟩:=List.getElem?_of_mem (t6Q e)
  obtain ⟨z',r',e1,h1⟩:=w9Q hi
  obtain ⟨e2,e3⟩:=Prod.mk.inj e1
  have e4:=Sum.inr.inj e2
  subst e4
  rw [e3,gO nd hz h1,Nat.zero_add]
def spNextOf:Sp:=fun vs H Q _=>∃ (pp pb pr pz:Addr) (us ur:List V) (bs:List Box) (rs:List Row) (z:Str) (r:Nat) (ns:List Int),vs=[.ref pp,.str z,.ref pz]/\bX H pp pb pr us ur bs rs/\xW bs rs/\(mks rs).Nodup/\(mks rs).length * vol bs < 64/\rs[r]?=some (.mark z)/\H pz=some (.tup (ns.map V.int))/\Within bs ns /\
 ∀ (l:Addr) (rl:List Addr) (H':Hp),H l=none->iQ H H'->H' l=some (.lst (rl.map V.ref))->Met H' rl (CnP bs rs z ns)->Q (.ref l) H'
def spFirstOf:Sp:=fun vs H Q _=>∃ (pp pb pr:Addr) (us ur:List V) (bs:List Box) (rs:List Row),vs=[.ref pp]/\bX H pp pb pr us ur bs rs/\xW bs rs/\(mks rs).length * vol bs < 64 /\
 ∀ (l:Addr) (rl:List Addr) (H':Hp),H l=none->iQ H H'->H' l=some (.lst (rl.map V.ref))->Met H' rl (Cf bs rs (0,bs.map Box.fst))->Q (.ref l) H'
theorem Met.imp {H:Hp} {rl:List Addr} {T T':Str->List Int->Prop} (h:Met H rl T) (e:∀ z v,T z v ↔ T' z v):Met H rl T':=
 ⟨h.l,fun r hr=>let ⟨z,v,p,t⟩:=h.to r hr; ⟨z,v,p,(e z v).mp t⟩,fun z v t=>h.of z v ((e z v).mpr t)⟩
theorem d4Q {bs:List Box} (ok:∀ b∈bs,b.Ok):Within bs (bs.map Box.fst):=by
 refine ⟨by rw [List.length_map],fun i b n e1 e2=>?_⟩
 rw [List.getElem?_map,e1] at e2
 cases e2
 have:=ok b (List.mem_of_getElem? e1)
 exact ⟨this.fl,this.fh⟩
section
theorem o8Q:yQ ["program","mark","values","standing"] ["program","mark","values"] (gQ eK):=(by wtm_at "f")
theorem o3Z (h:Has K mg "next_of" eK ["program","mark","values"]) (B:Blt mg) (cP:Cal P w K mg base 1 "mark_places" ["rows"] spMarkPlaces) (cB:Cal P w K mg base 19 "standings_behind" ["program","standing"] spBehind) (cM:Cal P w K mg base 20 "marks_met" ["program","standings"] spMarksMet):Cal P w K mg base 21 "next_of" ["program","mark","values"] spNextOf:=by
 refine h.cal o8Q (fun vs H Q E h=>?_) (fun f cdv A outer s H vs Q E hr h=>?_)
 ·obtain ⟨_,_,_,_,_,_,_,_,_,_,_,rfl,_⟩:=h
  rfl
 obtain ⟨pp,pb,pr,pz,us,ur,bs,rs,z,r,ns,rfl,G,O,nd,h64,hz,hpz,W,q⟩:=h
 have hu:=uY hr
 have hr20:sZ 20 _:=hr
 have hr19:sZ 19 _:=hr.mono (by decide)
 have hr1:sZ 1 _:=hr.mono (by decide)
 refine ⟨_,(bQ (qQ (i:=3) o8Q.nd rfl (Or.inl rfl) (iZ (aQ (aV hu (wQ cP hr1 rfl (aQ (mQ pQ (pv 0) cQ (fun _ _=>rfl)) eQ)) (pv 1) (fun _ _=>rfl)) (aQ (pv 2) eQ))))
  (fQ (oQ (wQ cM hr20 rfl (aQ (pv 0) (aQ (wQ cB hr19 rfl (aQ (pv 0) (aQ (pv 3) eQ))) eQ)))))),?_⟩
 have rl':r < rs.length:=(List.getElem?_eq_some_iff.mp hz).1
 refine ⟨_,rfl,pp,_,((1:Nat):Int),_,rfl,rfl,SqT.of G.prog,rfl,pr,ur,rs,rfl,G.ro,G.each,O.l60,nd,fun d H1 hd s1 e1=>?_⟩
 refine ⟨_,rfl,d,.int (r:Nat),rfl,?_,_,rfl,(by show 2<=sizeLine; decide),fun p hp=>?_⟩
 ·have:=aY.k (k:=Sum.inr z) e1
  rw [d9Z nd hz] at this
  exact this
 have sp:=iQ.new hp (.tup [.int (r:Nat),.ref pz])
 have S2:fK (upd H1 p (.tup [.int (r:Nat),.ref pz])) p r pz ns:=⟨dQ,sp _ _ (s1 _ _ hpz)⟩
 have s2:=s1.trans sp
 show fX 3 (V.ref p) _ (upd H1 p (.tup [.int (r:Nat),.ref pz])) _
 generalize upd H1 p (.tup [.int (r:Nat),.ref pz])=H2 at *
 refine ⟨_,rfl,_,rfl,_,rfl,pp,pb,pr,p,pz,us,ur,bs,rs,r,ns,rfl,G.same s2,O,S2,by omega,W,fun l ul H3 hl s3 e3 D3=>?_⟩
 have lb:=e1Z (rs:=rs) G.ok r ns
 refine ⟨pp,pb,pr,l,us,ur,ul,bs,rs,beh bs rs r ns,rfl,G.same (s2.trans s3),O,h64,e3,D3,by omega,fun s hs=>?_,fun l' rl H4 hl4 s4 e4 M4=>q l' rl H4 (iQ.free (s2.trans s3) hl4) ((s2.trans s3).trans s4) e4 (M4.imp fun z' v'=>?_)⟩
 ·obtain ⟨k',ns'⟩:=s
  obtain ⟨w1,w2,w3⟩:=r3Q W O.aims hs
  refine ⟨?_,w1⟩
  rcases w3 with e | ⟨z,e⟩
  ·show k'<=_; omega
  ·exact Nat.le_of_lt (List.getElem?_eq_some_iff.mp e).1
 ·constructor
  ·intro h
   exact ⟨r,hz,p6Q.mpr h⟩
  ·rintro ⟨k,hk,c⟩
   rw [gO nd hk hz] at c
   exact p6Q.mp c
theorem p3Z:yQ ["program"] ["program"] (gQ uV):=(by wtm_at "f")
theorem c0Z (h:Has K mg "first_of" uV ["program"]) (cS:Cal P w K mg base 1 "start_of" ["program"] spStartOf) (cM:Cal P w K mg base 20 "marks_met" ["program","standings"] spMarksMet):Cal P w K mg base 21 "first_of" ["program"] spFirstOf:=by
 refine h.cal p3Z (fun vs H Q E h=>?_) (fun f cdv A outer s H vs Q E hr h=>?_)
 ·obtain ⟨_,_,_,_,_,_,_,rfl,_⟩:=h
  rfl
 obtain ⟨pp,pb,pr,us,ur,bs,rs,rfl,G,O,h64,q⟩:=h
 have hr20:sZ 20 _:=hr
 have hr1:sZ 1 _:=hr.mono (by decide)
 refine ⟨_,(fQ (oQ (wQ cM hr20 rfl (aQ (pv 0) (aQ (jX (aQ (wQ cS hr1 rfl (aQ (pv 0) eQ)) eQ)) eQ))))),?_⟩
 refine ⟨_,rfl,_,rfl,pp,pb,pr,us,ur,bs,rs,rfl,G,O.l4,fun q0 pz H1 hq s1 S1=>⟨(by show 1<=sizeLine; decide),fun l hl=>?_⟩⟩
 have s2:=iQ.new hl (.lst [.ref q0])
 have e2:upd H1 l (.lst [.ref q0]) l=some (.lst [.ref q0]):=dQ
 generalize upd H1 l (.lst [.ref q0])=H2 at *
 have s12:=s1.trans s2
 refine ⟨pp,pb,pr,l,us,ur,[.ref q0],bs,rs,[(0,bs.map Box.fst)],rfl,G.same s12,O,h64,e2,⟨rfl,fun i x y e1 e2=>?_⟩,(by show 1<=400; decide),fun s hs=>?_,fun l' rl H4 hl4 s4 e4 M4=>q l' rl H4 (iQ.free s12 hl4) (s12.trans s4) e4 (M4.imp fun z' v'=>?_)⟩
 ·rcases i with _ | i
  ·cases e1; cases e2; exact ⟨q0,pz,rfl,S1.same s2⟩
  ·simp at e1
 ·rw [List.mem_singleton.mp hs]
  exact ⟨Nat.zero_le _,d4Q G.ok⟩
 ·constructor
  ·rintro ⟨s,hs,c⟩
   rw [List.mem_singleton.mp hs] at c
   exact c
  ·intro c
   exact ⟨_,List.mem_singleton.mpr rfl,c⟩
end
def Way (bs:List Box) (rs:List Row) (H:Hp) (kv:NKey × V):Prop:=∃ (z:Str) (v:List Int) (l:Addr) (rl:List Addr),kv.1=(Sum.inr z,tk v)/\z∈mks rs/\v∈wZ bs/\kv.2 = .ref l/\H l=some (.lst (rl.map V.ref))/\Met H rl (CnP bs rs z v)
theorem Way.same {bs:List Box} {rs:List Row} {H H':Hp} {kv:NKey × V} (h:Way bs rs H kv) (s:iQ H H'):Way bs rs H' kv:=by
 obtain ⟨z,v,l,rl,e1,e2,e3,e4,e5,e6⟩:=h
 exact ⟨z,v,l,rl,e1,e2,e3,e4,s _ _ e5,e6.same s⟩
theorem Met.tups {H H':Hp} {rl:List Addr} {T:Str->List Int->Prop} (h:Met H rl T) (t:∀ q xs,H q=some (.tup xs)->H' q=some (.tup xs)):Met H' rl T:=
 ⟨h.l,fun r hr=>let ⟨z,v,⟨pz,p1,p2⟩,x⟩:=h.to r hr; ⟨z,v,⟨pz,t _ _ p1,t _ _ p2⟩,x⟩,fun z v x=>let ⟨r,hr,⟨pz,p1,p2⟩⟩:=h.of z v x; ⟨r,hr,⟨pz,t _ _ p1,t _ _ p2⟩⟩⟩
theorem Way.but {bs:List Box} {rs:List Row} {H H':Hp} {d:Addr} {kv:NKey × V} {φ:_} (h:Way bs rs H kv) (hd:H d=some (.ext φ)) (s:But d H H'):Way bs rs H' kv:=by
 obtain ⟨z,v,l,rl,e1,e2,e3,e4,e5,e6⟩:=h
 exact ⟨z,v,l,rl,e1,e2,e3,e4,s _ _ (fun x=>by rw [x,hd] at e5; cases e5) e5,e6.tups fun q xs h=>s _ _ (fun x=>by rw [x,hd] at h; cases h) h⟩
structure wO (P:Program) (w:World) (bs:List Box) (rs:List Row) (H:Hp) (d:Addr) (kvs:List (NKey × V)):Prop where
 at_:rX P w H d kvs
 each:∀ kv∈kvs,Way bs rs H kv
theorem e9Z {κ:Type} [DecidableEq κ] {kvs:List (κ × V)} {k:κ} {y:V} {kv:κ × V} (h:kv∈dX kvs k y):kv=(k,y)\/kv∈kvs:=by
 unfold dX at h
 split at h
 ·obtain ⟨a,ha,rfl⟩:=List.mem_map.mp h
  by_cases e:a.1=k
  ·rw [if_pos e,e]; exact .inl rfl
  ·rw [if_neg e]; exact .inr ha
 ·rcases List.mem_append.mp h with h | h
  ·exact .inr h
  ·exact .inl (List.mem_singleton.mp h)
theorem wO.len {P:Program} {w:World} {bs:List Box} {rs:List Row} {H:Hp} {d:Addr} {kvs:List (NKey × V)} (h:wO P w bs rs H d kvs):kvs.length<=(mks rs).length * vol bs:=by
 obtain ⟨_,_,_,_,nd,_⟩:=h.at_
 have h:=v0Q (ys:=(mks rs).flatMap fun z=>(wZ bs).map fun v=>((Sum.inr z,tk v):NKey)) nd fun x hx=>by
  obtain ⟨kv,hkv,rfl⟩:=List.mem_map.mp hx
  obtain ⟨z,v,_,_,e,hz,hv,_⟩:=h.each kv hkv
  exact List.mem_flatMap.mpr ⟨z,hz,List.mem_map.mpr ⟨v,hv,e.symm⟩⟩
 rw [List.length_map,w0Q _ (vol bs) (fun x=>by rw [List.length_map,lV])] at h
 exact h
def z6Z (P:Program) (w:World):Sp:=fun vs H Q _=>∃ (pp pb pr:Addr) (us ur:List V) (bs:List Box) (rs:List Row),vs=[.ref pp]/\bX H pp pb pr us ur bs rs/\xW bs rs/\(mks rs).Nodup/\(mks rs).length * vol bs < 64 /\
 ∀ (d:Addr) (kvs:List (NKey × V)) (H':Hp),H d=none->iQ H H'->wO P w bs rs H' d kvs->(∀ z∈mks rs,∀ v∈wZ bs,MtIn kvs z v)->Q (.ref d) H'
section
theorem u6Q:yQ ["program","found","mark","values"] ["program"] (gQ k5Q):=(by wtm_at "f")
theorem f9Z (h:Has K mg "_law_ways" k5Q ["program"]) (cL:Cal P w K mg base 1 "_law_marks" ["program"] spLMarks) (cV:Cal P w K mg base 1 "_law_values" ["boxes"] spValues) (cN:Cal P w K mg base 21 "next_of" ["program","mark","values"] spNextOf):Cal P w K mg base 22 "_law_ways" ["program"] (z6Z P w):=by
 refine h.cal u6Q (fun vs H Q E h=>?_) (fun f cdv A outer s H vs Q E hr h=>?_)
 ·obtain ⟨_,_,_,_,_,_,_,rfl,_⟩:=h
  rfl
 obtain ⟨pp,pb,pr,us,ur,bs,rs,rfl,G,O,nd,h64,q⟩:=h
 have hu3:(A.deeper _).units + 2 < cLine:=Nat.lt_of_le_of_lt (Nat.add_le_add_left (by decide:2<=64) _) hr.units
 have hr21:sZ 21 _:=hr
 have hr1:sZ 1 _:=hr.mono (by decide)
 refine ⟨_,(bQ (qQ (i:=1) u6Q.nd rfl (Or.inl rfl) k0Q)
  (bQ (uZ PassesOwn.never rfl (xZ (wQ cL hr1 rfl (aQ (pv 0) eQ))) (uQ (i:=2) u6Q.nd rfl (Or.inl rfl))
   (fQ (uZ PassesOwn.never rfl (xZ (wQ cV hr1 rfl (aQ (mQ pQ (pv 0) cQ (fun _ _=>rfl)) eQ))) (uQ (i:=3) u6Q.nd rfl (Or.inl rfl))
    (fQ (g2Q hu3 (pv 1) (iZ (aQ (pv 2) (aQ (pv 3) eQ))) (wQ cN hr21 rfl (aQ (pv 0) (aQ (pv 2) (aQ (pv 3) eQ)))) rfl)))))
  (fQ (oQ (pv 1))))),?_⟩
 intro d hd hsy
 have s1:=iQ.new hd (PkO P w d [])
 have N1:rX P w (upd H d (PkO P w d [])) d []:=rX.new hsy
 show fX 1 (V.ref d) _ (upd H d (PkO P w d [])) _
 generalize upd H d (PkO P w d [])=H1 at *
 refine ⟨_,rfl,pp,pr,_,ur,rs,rfl,s1 _ _ G.prog,s1 _ _ G.ro,(G.same s1).each,O.l60,fun pm H2 hpm s2 e2=>?_⟩
 have W2:wO P w bs rs H2 d []:=⟨N1.same s2,fun kv h=>nomatch h⟩
 have s02:=s1.trans s2
 have npm:pm≠d:=fun z=>by
  obtain ⟨φ,e⟩:=W2.at_.there
  rw [<-z,e2] at e; cases e
 refine ⟨pm,rfl,⟨_,SqL.of e2⟩,kX (K:=K) (a:=pm) (xs:=(mks rs).map V.str) (fun i σ H'=>(∃ c2 c3:Option V,σ=[some (.ref pp),some (.ref d),c2,c3])/\iQ H H'/\H' pm=some (.lst ((mks rs).map V.str))/\∃ kvs,wO P w bs rs H' d kvs/\∀ z∈(mks rs).take i,∀ v∈wZ bs,MtIn kvs z v)
  ⟨⟨none,none,rfl⟩,s02,e2,[],W2,fun z hz=>nomatch hz⟩ (fun i σ H' _ hh=>SqL.of hh.2.2.1) ?_ ?_⟩
 ·rintro i x σ H3 hi ⟨⟨c2,c3,rfl⟩,s3,e3,kvs,W3,f3⟩
  rw [List.getElem?_map] at hi
  obtain ⟨z,hz,rfl⟩:=Option.map_eq_some_iff.mp hi
  have hzm:=List.mem_of_getElem? hz
  obtain ⟨r,hr0⟩:∃ r:Nat,rs[r]?=some (.mark z):=by
   obtain ⟨row,hrow,e⟩:=List.mem_filterMap.mp hzm
   rw [Row.nm_some e] at hrow
   exact List.getElem?_of_mem hrow
  refine ⟨_,rfl,pp,_,((0:Nat):Int),_,rfl,rfl,SqT.of (s3 _ _ G.prog),rfl,pb,us,bs,rfl,(G.same s3).boxes,G.ok,O.l4,O.vol,fun pv' uv H4 hpv s4 V4=>?_⟩
  refine ⟨pv',rfl,⟨_,SqL.of V4.at_⟩,kX (K:=K) (a:=pv') (xs:=uv) (fun j σ H'=>(∃ c3:Option V,σ=[some (.ref pp),some (.ref d),some (.str z),c3])/\iQ H H'/\H' pm=some (.lst ((mks rs).map V.str))/\mJ H' pv' uv (wZ bs)/\∃ kvs,wO P w bs rs H' d kvs/\(∀ z∈(mks rs).take i,∀ v∈wZ bs,MtIn kvs z v)/\∀ v∈(wZ bs).take j,MtIn kvs z v)
   ⟨⟨_,rfl⟩,s3.trans s4,s4 _ _ e3,V4,kvs,⟨W3.at_.same s4,fun kv h=>(W3.each kv h).same s4⟩,f3,fun v hv=>nomatch hv⟩ (fun j σ H' _ hh=>SqL.of hh.2.2.2.1.at_) ?_ ?_⟩
  ·rintro j x σ H5 hj ⟨⟨c3,rfl⟩,s5,e5,V5,kvs,W5,f5,g5⟩
   obtain ⟨v,hv,pz,rfl,hpz⟩:=V5.each.at hj
   have hvm:=List.mem_of_getElem? hv
   refine ⟨_,rfl,_,rfl,_,rfl,pp,pb,pr,pz,us,ur,bs,rs,z,r,v,rfl,G.same s5,O,nd,h64,hr0,hpz,mU G.ok hvm,fun l rl H6 hl s6 e6 M6=>?_⟩
   refine ⟨_,rfl,_,rfl,_,rfl,(by show 2<=sizeLine; decide),fun p hp=>?_⟩
   have sp:=iQ.new hp (.tup [.str z,.ref pz])
   have Pp:gK (upd H6 p (.tup [.str z,.ref pz])) p z v:=⟨pz,dQ,sp _ _ (s6 _ _ hpz)⟩
   have s57:=s6.trans sp
   generalize upd H6 p (.tup [.str z,.ref pz])=H7 at *
   have W7:wO P w bs rs H7 d kvs:=⟨W5.at_.same s57,fun kv h=>(W5.each kv h).same s57⟩
   obtain ⟨φ,hφ⟩:=W7.at_.there
   have ln:=W7.len
   refine ⟨d,p,_,kvs,rfl,rfl,Pp.pk,W7.at_,by rw [sizeLine_eq]; omega,fun H8 e8 N8=>?_⟩
   have b8:But d H7 H8:=fun c o n e=>by rw [e8 c n]; exact e
   have s8:iQ H H8:=fun c o e=>b8 c o (jQ e hd) (s57 _ _ (s5 c o e))
   have nd8:∀ {b:Addr} {o:HO},H7 b=some o->(∀ φ,o ≠ .ext φ)->H8 b=some o:=fun hb ho=>b8 _ _ (fun x=>by rw [x,hφ] at hb; exact ho _ (Option.some.inj hb).symm) hb
   have Wn:Way bs rs H7 ((Sum.inr z,tk v),.ref l):=⟨z,v,l,rl,rfl,hzm,hvm,rfl,sp _ _ e6,M6.same sp⟩
   refine ⟨⟨_,rfl⟩,s8,nd8 (s57 _ _ e5) (fun φ h=>nomatch h),⟨nd8 (s57 _ _ V5.at_) (fun φ h=>nomatch h),V5.each.mono fun _ _ ⟨p,e,hp⟩=>⟨p,e,nd8 (s57 _ _ hp) (fun φ h=>nomatch h)⟩⟩,_,⟨N8,fun kv hkv=>?_⟩,fun z' hz' v' hv'=>oU (f5 z' hz' v' hv'),fun v' hv'=>?_⟩
   ·rcases e9Z hkv with e | h
    ·rw [e]; exact Wn.but hφ b8
    ·exact (W7.each kv h).but hφ b8
   ·rw [List.take_add_one,hv] at hv'
    rcases List.mem_append.mp hv' with h | h
    ·exact oU (g5 v' h)
    ·have:v'=v:=by simpa using h
     rw [this]; exact u0Q
  ·rintro σ H5 ⟨⟨c3,rfl⟩,s5,e5,V5,kvs,W5,f5,g5⟩
   refine ⟨⟨_,_,rfl⟩,s5,e5,kvs,W5,fun z' hz' v' hv'=>?_⟩
   rw [List.take_add_one,hz] at hz'
   rcases List.mem_append.mp hz' with h | h
   ·exact f5 z' h v' hv'
   ·have:z'=z:=by simpa using h
    rw [this]
    refine g5 v' ?_
    have hlv:=V5.each.1
    rw [hlv,List.take_length]
    exact hv'
 ·rintro σ H3 ⟨⟨c2,c3,rfl⟩,s3,e3,kvs,W3,f3⟩
  refine ⟨_,rfl,q d kvs H3 hd s3 W3 fun z hz v hv=>f3 z ?_ v hv⟩
  rw [List.length_map,List.take_length]
  exact hz
end
section
open PySem.Spec PyProof.Rows
theorem e4Q (k:Str):∀ ys:List Str,countIn (.str k) (ys.map PyData.str)=((ys.count k:Nat):Int)
 | []=>rfl
 | y :: r=>by
  rw [List.map_cons,countIn,e4Q k r,List.count_cons]
  simp only [same]
  rcases Bool.eq_false_or_eq_true (y == k) with hb | hb <;> simp only [hb,Bool.false_eq_true,if_true,if_false] <;> push_cast <;> omega
theorem q3Z {ns:List Int} (h:∀ n∈ns,0<=n/\n < 1000) (hz:ns.length<=1000):PyData.layable0 (.list (ns.map .int))=true:=by
 have one:∀ ns:List Int,PyData.canLayAll0 (ns.map .int)=true:=by
  intro ns
  induction ns with
  | nil=>rfl
  | cons a r ih=>simpa [PyData.canLayAll0,PyData.canLay0] using ih
 have two:∀ ns:List Int,PyData.depthAll (ns.map .int)=0:=by
  intro ns
  induction ns with
  | nil=>rfl
  | cons a r ih=>simp [PyData.depthAll,PyData.depth,ih]
 have three:∀ ns:List Int,(∀ n∈ns,0<=n/\n < 1000)->PyData.weightAll (ns.map .int)<=11 * ns.length:=by
  intro ns
  induction ns with
  | nil=>intro _; exact Nat.le_refl _
  | cons a r ih =>
   intro hh
   have ha:=hh a List.mem_cons_self
   have hr:=ih fun n m=>hh n (List.mem_cons_of_mem _ m)
   have hw:PyData.weight (.int a)<=10:=by
    show (if a == 0 then 0 else a.natAbs.log2 + 1)<=10
    split
    ·exact Nat.zero_le _
    ·rename_i hz
     have hz':a.natAbs≠0:=by
      intro z
      apply hz
      rw [beq_iff_eq]
      omega
     have:a.natAbs.log2 < 10:=(Nat.log2_lt hz').mpr (by omega)
     omega
   rw [List.map_cons,PyData.weightAll,List.length_cons]
   omega
 have w:=three ns h
 have e20:(2:Nat) ^ 20=1048576:=by decide
 unfold PyData.layable0
 rw [Bool.and_eq_true]
 rw [Bool.and_eq_true]
 refine ⟨⟨?_,decide_eq_true ?_⟩,decide_eq_true ?_⟩
 ·simpa [PyData.canLay0] using one ns
 ·rw [PyData.depth,two]
  omega
 ·rw [PyData.weight]
  omega
def nZ (ks:List Str):Nat->List Int
 | 0=>[]
 | i + 1=>if ks[i]?=some ("mark":Str) then nZ ks i++[(i:Int)] else nZ ks i
theorem sU (ks:List Str):∀ i,i<=ks.length->(nZ ks i).length=(ks.take i).count ("mark":Str)
 | 0,_=>rfl
 | i + 1,h=>by
  have ih:=sU ks i (by omega)
  have hi:i < ks.length:=by omega
  unfold nZ
  rw [List.take_add_one,List.getElem?_eq_getElem hi,List.count_append]
  by_cases e:ks[i] = "mark"
  ·rw [if_pos (by rw [e]),List.length_append,ih,e]
   rfl
  ·rw [if_neg (fun z=>e (Option.some.inj z)),ih]
   have:List.count ("mark":Str) (some ks[i]).toList=0:=by
    show List.count ("mark":Str) [ks[i]]=0
    rw [List.count_singleton]
    simp [e]
   rw [this,Nat.add_zero]
theorem pY (ks:List Str):∀ i m,m∈nZ ks i->0<=m/\m < (i:Int)
 | 0,m,h=>by cases h
 | i + 1,m,h=>by
  unfold nZ at h
  split at h
  ·rcases List.mem_append.mp h with h0 | h0
   ·have:=pY ks i m h0; omega
   ·rw [List.mem_singleton.mp h0]; omega
  ·have:=pY ks i m h; omega
theorem tU (ks:List Str):∀ (i k:Nat),k < i->ks[k]?=some ("mark":Str)->(k:Int)∈nZ ks i
 | 0,k,h,_=>by omega
 | i + 1,k,h,e=>by
  unfold nZ
  by_cases hk:k=i
  ·subst hk
   rw [if_pos e]
   simp
  ·have:=tU ks i k (by omega) e
   split
   ·exact List.mem_append_left _ this
   ·exact this
end
theorem d0Z {xs:List V} {k:Int} (h0:0<=k) (h1:k < (xs.length:Int)):∃ v,xs[k.toNat]?=some v/\atI xs k=some v:=by
 have hk:k.toNat < xs.length:=by omega
 have h2:atI xs ((k.toNat:Nat):Int)=some xs[k.toNat]:=oX (List.getElem?_eq_getElem hk)
 rw [Int.toNat_of_nonneg h0] at h2
 exact ⟨xs[k.toNat],List.getElem?_eq_getElem hk,h2⟩
theorem sg4 {k:Int} (h0:0<=k) (h1:k < 4):∃ g:Sg,atI [V.str "+",.str "-",.str "*",.str "+"] k=some (.str g.str):=by
 have:k=0\/k=1\/k=2\/k=3:=by omega
 rcases this with rfl | rfl | rfl | rfl
 ·exact ⟨.add,rfl⟩
 ·exact ⟨.sub,rfl⟩
 ·exact ⟨.mul,rfl⟩
 ·exact ⟨.add,rfl⟩
def mk4 (k:Int):Str:=if k=0 then "c" else if k=1 then "at" else if k=2 then "ba" else "b"
theorem e3X {k:Int} (h0:0<=k) (h1:k < 4):atI [V.str "c",.str "at",.str "ba",.str "b"] k=some (.str (mk4 k)):=by
 have:k=0\/k=1\/k=2\/k=3:=by omega
 rcases this with rfl | rfl | rfl | rfl
 ·rfl
 ·rfl
 ·rfl
 ·rfl
theorem g9Z {a b:Int} (a0:0<=a) (a1:a < 4) (b0:0<=b) (b1:b < 4) (h:mk4 a=mk4 b):a=b:=by
 have ha:a=0\/a=1\/a=2\/a=3:=by omega
 have hb:b=0\/b=1\/b=2\/b=3:=by omega
 rcases ha with rfl | rfl | rfl | rfl <;> rcases hb with rfl | rfl | rfl | rfl <;> first | rfl | exact absurd h (by decide +kernel)
theorem r3Z (x:Int) {n:Nat} (h:n<=4):((List.range n).map fun (k:Nat)=>mk4 (((k:Int) + x) % 4)).Nodup:=by
 refine List.pairwise_map.mpr ((List.nodup_range (n:=n)).imp_of_mem fun {a b} ha hb hne z=>?_)
 have h1:=List.mem_range.mp ha
 have h2:=List.mem_range.mp hb
 have m1:=pZ (a:=(a:Int) + x) (n:=4) (by decide)
 have m2:=pZ (a:=(b:Int) + x) (n:=4) (by decide)
 have:=g9Z m1.1 m1.2 m2.1 m2.2 z
 omega
def spTerm:Sp:=fun vs H Q _=>∃ (x:Int) (pb:Addr) (us:List V) (bs:List Box),vs=[.int x,.ref pb]/\0<=x/\x < 20000/\gJ H pb us bs/\1<=bs.length/\bs.length<=4/\∀ (v:V) (t:lY) (H':Hp),iQ H H'->iJ H' v t->t.Ok (oZ bs)->t.leaves=1->Q v H'
def spSum:Sp:=fun vs H Q _=>∃ (x y:Int) (pb:Addr) (us:List V) (bs:List Box),vs=[.int x,.int y,.ref pb]/\0<=x/\x < 20000/\0<=y/\y < 20000/\gJ H pb us bs/\1<=bs.length/\bs.length<=4/\∀ (v:V) (t:lY) (H':Hp),iQ H H'->iJ H' v t->t.Ok (oZ bs)->t.leaves<=2->Q v H'
def uU:List Str:=["mark","ask","put","go","if","stop","mark","put"]
theorem h9Z {k:Int} (h0:0<=k) (h1:k < 8):∃ z,z∈uU/\atI [V.str "mark",.str "ask",.str "put",.str "go",.str "if",.str "stop",.str "mark",.str "put"] k=some (.str z):=by
 have:k=0\/k=1\/k=2\/k=3\/k=4\/k=5\/k=6\/k=7:=by omega
 rcases this with rfl | rfl | rfl | rfl | rfl | rfl | rfl | rfl
 ·exact ⟨"mark",by simp [uU],rfl⟩
 ·exact ⟨"ask",by simp [uU],rfl⟩
 ·exact ⟨"put",by simp [uU],rfl⟩
 ·exact ⟨"go",by simp [uU],rfl⟩
 ·exact ⟨"if",by simp [uU],rfl⟩
 ·exact ⟨"stop",by simp [uU],rfl⟩
 ·exact ⟨"mark",by simp [uU],rfl⟩
 ·exact ⟨"put",by simp [uU],rfl⟩
def Row.In (sps:List Int):Row->Prop
 | .go t=>(t:Int)∈sps
 | .iff _ _ _ t=>(t:Int)∈sps
 | _=>True
def spStatement:Sp:=fun vs H Q _=>∃ (z:Str) (p4 pb psp:Addr) (k:Nat) (turn:Int) (f0 f1 f2 f3:Int) (us:List V) (bs:List Box) (sps:List Int),vs=[.str z,.ref p4,.ref pb,.ref psp,.int (k:Nat),.int turn]/\z∈uU/\H p4=some (.lst [.int f0,.int f1,.int f2,.int f3])/\(0<=f1/\0<=f2/\f2 < 10007/\0<=f3/\f3 < 10007)/\gJ H pb us bs/\1<=bs.length/\bs.length<=4/\H psp=some (.lst (sps.map V.int))/\sps.length<=100/\(∀ n∈sps,0<=n/\n < 1000)/\(z = "mark"->(k:Int)∈sps) /\
 ∀ (v:V) (row:Row) (H':Hp),iQ H H'->lW H' v row->row.Ok bs->row.In sps->(z = "mark"->row = .mark (mk4 (((sps.idxOf (k:Int):Nat) + turn) % 4)))->(z ≠ "mark"->row.nm=none)->Q v H'
def spProgram:Sp:=fun vs H Q _=>∃ (pd:Addr) (ds:List Int),vs=[.ref pd]/\H pd=some (.lst (ds.map V.int))/\100<=ds.length/\SmD ds /\
 ∀ (pp pb pr:Addr) (us ur:List V) (bs:List Box) (rs:List Row) (H':Hp),H pp=none->iQ H H'->bX H' pp pb pr us ur bs rs->xW bs rs->1<=bs.length->bs.length<=3->vol bs<=9->rs.length<=9->(mks rs).length<=3->(mks rs).Nodup->(∀ b∈bs,b.size<=5)->Q (.ref pp) H'
section
theorem z1X:yQ ["x","boxes"] ["x","boxes"] (gQ i5Q):=(by wtm_at "f")
theorem i9Z (h:Has K mg "_law_term" i5Q ["x","boxes"]) (B:Blt mg):Cal P w K mg base 1 "_law_term" ["x","boxes"] spTerm:=by
 refine h.cal z1X (fun vs H Q E h=>?_) (fun f cdv A outer s H vs Q E hr h=>?_)
 ·obtain ⟨_,_,_,_,rfl,_⟩:=h
  rfl
 obtain ⟨x,pb,us,bs,rfl,x0,x1,X,l1,l4,q⟩:=h
 refine ⟨_,(@bQ _ _ _ _ _ (@cZ _ _ _ _ _ _ _ _ (@rQ _ _ _ _ _ _ _ _ aZ (@lQ _ _ _ _ _ _ _ _ gZ (pv 0) cQ) cQ (nQ _)) (@fQ _ _ _ (@oQ _ _ _ _ (@iZ _ _ _ _ _ (@aQ _ _ _ _ _ tQ (@aQ _ _ _ _ _ (@mQ _ _ _ _ _ _ _ pQ (@mQ _ _ _ _ _ _ _ zQ (pv 1) (@lQ _ _ _ _ _ _ _ _ gZ (@lQ _ _ _ _ _ _ _ _ nX (pv 0) cQ) (@bZ _ _ _ _ _ _ _ _ _ dZ rfl B.len pX (@aQ _ _ _ _ _ (pv 1) eQ rfl) (by decide) (by decide) rfl rfl)) (fun _ _=>rfl)) cQ (fun _ _=>rfl)) eQ rfl) rfl)))) sQ) (@bQ _ _ _ _ _ (@cZ _ _ _ _ _ _ _ _ (@rQ _ _ _ _ _ _ _ _ aZ (@lQ _ _ _ _ _ _ _ _ gZ (pv 0) cQ) cQ (nQ _)) (@fQ _ _ _ (@oQ _ _ _ _ (@iZ _ _ _ _ _ (@aQ _ _ _ _ _ tQ (@aQ _ _ _ _ _ (@lQ _ _ _ _ _ _ _ _ nX (pv 0) cQ) eQ rfl) rfl)))) sQ) (@fQ _ _ _ (@oQ _ _ _ _ (@iZ _ _ _ _ _ (@aQ _ _ _ _ _ tQ (@aQ _ _ _ _ _ (@lQ _ _ _ _ _ _ _ _ gZ (@lQ _ _ _ _ _ _ _ _ nX (pv 0) cQ) cQ) eQ rfl) rfl)))))),?_⟩
 have hl:=X.each.1
 have m2:=pZ (a:=x / 2) (n:=(us.length:Int)) (by omega)
 refine ⟨_,rfl,_,_,rfl,rfl,(by decide:(0:Int) < 2),rfl,_,rfl,sX (fun _=>?_) (fun _=>?_)⟩
 ·obtain ⟨u,hu',ha⟩:=d0Z (xs:=us) m2.1 m2.2
  obtain ⟨u',b,h1,h2,pbx,rfl,hpb⟩:=X.each.get (i:=(x / 2 % us.length).toNat) (by omega)
  rw [hu'] at h1
  cases h1
  refine ⟨_,rfl,_,rfl,_,_,rfl,rfl,⟨by decide,by decide⟩,_,rfl,pb,us,rfl,.inl (SqL.of X.at_),_,_,rfl,rfl,(by omega:(0:Int) < us.length),pb,_,_,_,rfl,rfl,SqL.of X.at_,ha,pbx,_,((0:Nat):Int),_,rfl,rfl,SqT.of hpb,rfl,(by show 2<=sizeLine; decide),fun t ht=>?_⟩
  exact q (.ref t) (.box b.nm) _ (iQ.new ht _) (.box dQ) (List.mem_map.mpr ⟨b,List.mem_of_getElem? h2,rfl⟩) rfl
 ·refine ⟨_,rfl,_,_,rfl,rfl,(by decide:(0:Int) < 16),rfl,_,rfl,sX (fun _=>?_) (fun _=>?_)⟩
  ·refine ⟨_,rfl,_,_,rfl,rfl,⟨by decide,by decide⟩,(by show 2<=sizeLine; decide),fun t ht=>?_⟩
   exact q (.ref t) (.num (x / 16)) _ (iQ.new ht _) (.num dQ) ⟨by omega,by omega⟩ rfl
  ·have m:=pZ (a:=x / 2) (n:=4) (by decide)
   refine ⟨_,rfl,_,_,rfl,rfl,⟨by decide,by decide⟩,_,_,rfl,rfl,(by decide:(0:Int) < 4),(by show 2<=sizeLine; decide),fun t ht=>?_⟩
   exact q (.ref t) (.num (x / 2 % 4)) _ (iQ.new ht _) (.num dQ) ⟨m.1,by omega⟩ rfl
theorem g0X:yQ ["x","y","boxes","one"] ["x","y","boxes"] (gQ sSum):=(by wtm_at "f")
theorem a2X (h:Has K mg "_law_sum" sSum ["x","y","boxes"]) (cT:Cal P w K mg base 1 "_law_term" ["x","boxes"] spTerm):Cal P w K mg base 2 "_law_sum" ["x","y","boxes"] spSum:=by
 refine h.cal g0X (fun vs H Q E h=>?_) (fun f cdv A outer s H vs Q E hr h=>?_)
 ·obtain ⟨_,_,_,_,_,rfl,_⟩:=h
  rfl
 obtain ⟨x,y,pb,us,bs,rfl,x0,x1,y0,y1,X,l1,l4,q⟩:=h
 have hr1:sZ 1 _:=hr
 refine ⟨_,(@bQ _ _ _ _ _ (@qQ _ _ 3 _ _ _ _ g0X.nd rfl (Or.inl rfl) (wQ cT hr1 rfl (@aQ _ _ _ _ _ (@lQ _ _ _ _ _ _ _ _ nX (pv 0) cQ) (@aQ _ _ _ _ _ (pv 2) eQ rfl) rfl)) rfl (Or.inl rfl)) (@bQ _ _ _ _ _ (@cZ _ _ _ _ _ _ _ _ (@rQ _ _ _ _ _ _ _ _ aZ (@lQ _ _ _ _ _ _ _ _ gZ (pv 0) cQ) cQ (nQ _)) (@fQ _ _ _ (@oQ _ _ _ _ (pv 3))) sQ) (@fQ _ _ _ (@oQ _ _ _ _ (@iZ _ _ _ _ _ (@aQ _ _ _ _ _ (@mQ _ _ _ _ _ _ _ zQ (@jX _ _ _ _ (@aQ _ _ _ _ _ tQ (@aQ _ _ _ _ _ tQ (@aQ _ _ _ _ _ tQ (@aQ _ _ _ _ _ tQ eQ rfl) rfl) rfl) rfl)) (@lQ _ _ _ _ _ _ _ _ gZ (pv 0) cQ) (fun _ _=>rfl)) (@aQ _ _ _ _ _ (pv 3) (@aQ _ _ _ _ _ (wQ cT hr1 rfl (@aQ _ _ _ _ _ (pv 1) (@aQ _ _ _ _ _ (pv 2) eQ rfl) rfl)) eQ rfl) rfl) rfl)))))),?_⟩
 refine ⟨_,rfl,_,_,rfl,rfl,⟨by decide,by decide⟩,_,rfl,x / 5,pb,us,bs,rfl,by omega,by omega,X,l1,l4,fun v t H1 s1 T1 ok1 le1=>?_⟩
 refine ⟨_,rfl,_,_,rfl,rfl,(by decide:(0:Int) < 5),rfl,_,rfl,sX (fun _=>?_) (fun hne=>?_)⟩
 ·exact ⟨_,rfl,q v t H1 s1 T1 ok1 (by omega)⟩
 ·have m5:=pZ (a:=x) (n:=5) (by decide)
  have ne4:x % 5≠4:=fun z=>hne (show V.int (x % 5)=V.int 4 by rw [z])
  obtain ⟨g,hg⟩:=sg4 m5.1 (by omega)
  refine ⟨(by show 4<=sizeLine; decide),fun l hl=>?_⟩
  have sl:=iQ.new hl (.lst [.str "+",.str "-",.str "*",.str "+"])
  have l2:upd H1 l (.lst [.str "+",.str "-",.str "*",.str "+"]) l=some (.lst [.str "+",.str "-",.str "*",.str "+"]):=dQ
  have T2:=T1.mono sl
  have X2:=X.same (s1.trans sl)
  have s2:=s1.trans sl
  generalize upd H1 l (.lst [.str "+",.str "-",.str "*",.str "+"])=H2 at *
  refine ⟨_,rfl,_,_,rfl,rfl,(by decide:(0:Int) < 5),l,_,_,_,rfl,rfl,SqL.of l2,hg,_,rfl,_,rfl,_,rfl,y,pb,us,bs,rfl,y0,y1,X2,l1,l4,fun v2 t2 H3 s3 T3 ok3 le3=>?_⟩
  refine ⟨(by show 3<=sizeLine; decide),fun p hp=>?_⟩
  have sp:=iQ.new hp (.tup [.str g.str,v,v2])
  refine q (.ref p) (.op g t t2) _ (s2.trans (s3.trans sp)) (.op dQ (T2.mono (s3.trans sp)) (T3.mono sp)) ⟨ok1,ok3⟩ ?_
  show t.leaves + t2.leaves<=2
  omega
theorem vU:yQ ["kind","four","boxes","spots","k","turn","to","sign"] ["kind","four","boxes","spots","k","turn"] (gQ wW):=(by wtm_at "f")
theorem kin {z:Str} (h:z∈uU):z = "mark"\/z = "ask"\/z = "put"\/z = "go"\/z = "if"\/z = "stop":=by
 simp only [uU,List.mem_cons,List.mem_nil_iff,or_false] at h
 rcases h with h | h | h | h | h | h | h | h <;> simp [h]
theorem v6Q (h:Has K mg "_law_statement" wW ["kind","four","boxes","spots","k","turn"]) (B:Blt mg) (cT:Cal P w K mg base 1 "_law_term" ["x","boxes"] spTerm) (cS:Cal P w K mg base 2 "_law_sum" ["x","y","boxes"] spSum):Cal P w K mg base 3 "_law_statement" ["kind","four","boxes","spots","k","turn"] spStatement:=by
 refine h.cal vU (fun vs H Q E h=>?_) (fun f cdv A outer s H vs Q E hr h=>?_)
 ·obtain ⟨_,_,_,_,_,_,_,_,_,_,_,_,_,rfl,_⟩:=h
  rfl
 obtain ⟨z,p4,pb,psp,k,turn,f0,f1,f2,f3,us,bs,sps,rfl,hz,h4,⟨f10,f20,f21,f30,f31⟩,X,l1,l4,hsp,spl,spo,hkm,q⟩:=h
 have hr2:sZ 2 _:=hr
 have hr1:sZ 1 _:=hr.mono (by decide)
 have hu:=uY hr
 have hu0:=Nat.lt_of_le_of_lt (Nat.le_add_right _ 1) hu
 refine ⟨_,(@bQ _ _ _ _ _ (@cZ _ _ _ _ _ _ _ _ (@rQ _ _ _ _ _ _ _ _ aZ (pv 0) tQ (nQ _)) (@fQ _ _ _ (@oQ _ _ _ _ (@iZ _ _ _ _ _ (@aQ _ _ _ _ _ tQ (@aQ _ _ _ _ _ (@mQ _ _ _ _ _ _ _ zQ (@jX _ _ _ _ (@aQ _ _ _ _ _ tQ (@aQ _ _ _ _ _ tQ (@aQ _ _ _ _ _ tQ (@aQ _ _ _ _ _ tQ eQ rfl) rfl) rfl) rfl)) (@lQ _ _ _ _ _ _ _ _ gZ (@lQ _ _ _ _ _ _ _ _ hZ (iV PySem.F.plainAttrs_list PySem.F.slot_list_index PySem.F.type_list_index u4Z (pv 3) (@aQ _ _ _ _ _ (pv 4) eQ rfl)) (pv 5)) cQ) (fun _ _=>rfl)) eQ rfl) rfl)))) sQ) (@bQ _ _ _ _ _ (@cZ _ _ _ _ _ _ _ _ (@rQ _ _ _ _ _ _ _ _ aZ (pv 0) tQ (nQ _)) (@fQ _ _ _ (@oQ _ _ _ _ (@iZ _ _ _ _ _ (@aQ _ _ _ _ _ tQ (@aQ _ _ _ _ _ (@lQ _ _ _ _ _ _ _ _ gZ (@mQ _ _ _ _ _ _ _ zQ (pv 1) cQ (fun _ _=>rfl)) (@bZ _ _ _ _ _ _ _ _ _ dZ rfl B.len pX (@aQ _ _ _ _ _ (pv 2) eQ rfl) (by decide) (by decide) rfl rfl)) eQ rfl) rfl)))) sQ) (@bQ _ _ _ _ _ (@cZ _ _ _ _ _ _ _ _ (@rQ _ _ _ _ _ _ _ _ aZ (pv 0) tQ (nQ _)) (@fQ _ _ _ (@oQ _ _ _ _ (@iZ _ _ _ _ _ (@aQ _ _ _ _ _ tQ (@aQ _ _ _ _ _ (@lQ _ _ _ _ _ _ _ _ gZ (@mQ _ _ _ _ _ _ _ zQ (pv 1) cQ (fun _ _=>rfl)) (@bZ _ _ _ _ _ _ _ _ _ dZ rfl B.len pX (@aQ _ _ _ _ _ (pv 2) eQ rfl) (by decide) (by decide) rfl rfl)) (@aQ _ _ _ _ _ (wQ cS hr2 rfl (@aQ _ _ _ _ _ (@mQ _ _ _ _ _ _ _ zQ (pv 1) cQ (fun _ _=>rfl)) (@aQ _ _ _ _ _ (@mQ _ _ _ _ _ _ _ zQ (pv 1) cQ (fun _ _=>rfl)) (@aQ _ _ _ _ _ (pv 2) eQ rfl) rfl) rfl)) eQ rfl) rfl) rfl)))) sQ) (@bQ _ _ _ _ _ (@cZ _ _ _ _ _ _ _ _ (@PW.pt _ _ _ (@xV _ _ _ _ _ _ _ (@rQ _ _ _ _ _ _ _ _ (b1X hu0) (pv 3) (@jX _ _ _ _ eQ) (nQ _)) (@mW _ _ _ _ (@rQ _ _ _ _ _ _ _ _ aZ (pv 0) tQ (nQ _))))) (@fQ _ _ _ (@oQ _ _ _ _ (@iZ _ _ _ _ _ (@aQ _ _ _ _ _ tQ eQ rfl)))) sQ) (@bQ _ _ _ _ _ (@qQ _ _ 6 _ _ _ _ vU.nd rfl (Or.inl rfl) (@mQ _ _ _ _ _ _ _ zQ (pv 3) (@lQ _ _ _ _ _ _ _ _ gZ (@mQ _ _ _ _ _ _ _ zQ (pv 1) cQ (fun _ _=>rfl)) (@bZ _ _ _ _ _ _ _ _ _ dZ rfl B.len pX (@aQ _ _ _ _ _ (pv 3) eQ rfl) (by decide) (by decide) rfl rfl)) (fun _ _=>rfl)) rfl (Or.inl rfl)) (@bQ _ _ _ _ _ (@cZ _ _ _ _ _ _ _ _ (@rQ _ _ _ _ _ _ _ _ aZ (pv 0) tQ (nQ _)) (@fQ _ _ _ (@oQ _ _ _ _ (@iZ _ _ _ _ _ (@aQ _ _ _ _ _ tQ (@aQ _ _ _ _ _ (pv 6) eQ rfl) rfl)))) sQ) (@bQ _ _ _ _ _ (@qQ _ _ 7 _ _ _ _ vU.nd rfl (Or.inl rfl) (@mQ _ _ _ _ _ _ _ zQ (@jX _ _ _ _ (@aQ _ _ _ _ _ tQ (@aQ _ _ _ _ _ tQ eQ rfl) rfl)) (@lQ _ _ _ _ _ _ _ _ gZ (@lQ _ _ _ _ _ _ _ _ nX (@mQ _ _ _ _ _ _ _ zQ (pv 1) cQ (fun _ _=>rfl)) cQ) cQ) (fun _ _=>rfl)) rfl (Or.inl rfl)) (@fQ _ _ _ (@oQ _ _ _ _ (@iZ _ _ _ _ _ (@aQ _ _ _ _ _ tQ (@aQ _ _ _ _ _ (pv 7) (@aQ _ _ _ _ _ (wQ cT hr1 rfl (@aQ _ _ _ _ _ (@mQ _ _ _ _ _ _ _ zQ (pv 1) cQ (fun _ _=>rfl)) (@aQ _ _ _ _ _ (pv 2) eQ rfl) rfl)) (@aQ _ _ _ _ _ (wQ cT hr1 rfl (@aQ _ _ _ _ _ (@mQ _ _ _ _ _ _ _ zQ (pv 1) cQ (fun _ _=>rfl)) (@aQ _ _ _ _ _ (pv 2) eQ rfl) rfl)) (@aQ _ _ _ _ _ (pv 6) eQ rfl) rfl) rfl) rfl) rfl))))))))))),?_⟩
 have hl:=X.each.1
 have mb:=pZ (a:=f1) (n:=(us.length:Int)) (by omega)
 have eb:f1 % (us.length:Int)=(((f1 % (us.length:Int)).toNat:Nat):Int):=by omega
 rcases kin hz with rfl | rfl | rfl | rfl | rfl | rfl
 ·-- mark
  refine ⟨_,rfl,rfl,_,rfl,rV (by decide +kernel) ?_⟩
  have mm:=pZ (a:=((sps.idxOf (k:Int):Nat):Int) + turn) (n:=4) (by decide)
  have hm4:=e3X mm.1 mm.2
  refine ⟨(by show 4<=sizeLine; decide),fun l hl'=>?_⟩
  have sl:=iQ.new hl' (.lst [.str "c",.str "at",.str "ba",.str "b"])
  have l2:upd H l (.lst [.str "c",.str "at",.str "ba",.str "b"]) l=some (.lst [.str "c",.str "at",.str "ba",.str "b"]):=dQ
  generalize upd H l (.lst [.str "c",.str "at",.str "ba",.str "b"])=H2 at *
  have sp2:=sl _ _ hsp
  refine ⟨_,rfl,.inl ⟨rfl,_,SqL.of sp2⟩,_,rfl,psp,sps,_,rfl,rfl,SqL.of sp2,q3Z spo (by omega),hkm rfl,_,rfl,_,_,rfl,rfl,_,_,rfl,rfl,(by decide:(0:Int) < 4),l,_,_,_,rfl,rfl,SqL.of l2,hm4,(by show 2<=sizeLine; decide),fun p hp=>?_⟩
  exact q (.ref p) (.mark _) _ (sl.trans (iQ.new hp _)) ⟨p,rfl,dQ⟩ trivial trivial (fun _=>rfl) (fun z=>absurd rfl z)
 ·-- ask
  refine ⟨_,rfl,rfl,_,rfl,nJ (by decide +kernel) ?_⟩
  refine ⟨_,rfl,rfl,_,rfl,rV (by decide +kernel) ?_⟩
  refine ⟨_,rfl,p4,_,((1:Nat):Int),_,rfl,rfl,SqL.of h4,rfl,_,rfl,pb,us,rfl,.inl (SqL.of X.at_),_,_,rfl,rfl,(by omega:(0:Int) < us.length),(by show 2<=sizeLine; decide),fun p hp=>?_⟩
  refine q (.ref p) (.ask (f1 % (us.length:Int)).toNat) _ (iQ.new hp _) ⟨p,rfl,?_⟩ (by show (f1 % (us.length:Int)).toNat < bs.length; omega) trivial (fun z=>absurd z (by decide +kernel)) (fun _=>rfl)
  show upd H p _ p=some (.tup [.str "ask",.int (((f1 % (us.length:Int)).toNat:Nat):Int)])
  rw [dQ,<-eb]
 ·-- put
  refine ⟨_,rfl,rfl,_,rfl,nJ (by decide +kernel) ?_⟩
  refine ⟨_,rfl,rfl,_,rfl,nJ (by decide +kernel) ?_⟩
  refine ⟨_,rfl,rfl,_,rfl,rV (by decide +kernel) ?_⟩
  refine ⟨_,rfl,p4,_,((1:Nat):Int),_,rfl,rfl,SqL.of h4,rfl,_,rfl,pb,us,rfl,.inl (SqL.of X.at_),_,_,rfl,rfl,(by omega:(0:Int) < us.length),_,rfl,p4,_,((2:Nat):Int),_,rfl,rfl,SqL.of h4,rfl,_,rfl,p4,_,((3:Nat):Int),_,rfl,rfl,SqL.of h4,rfl,_,rfl,f2,f3,pb,us,bs,rfl,f20,by omega,f30,by omega,X,l1,l4,fun v t H1 s1 T1 ok1 le1=>⟨(by show 3<=sizeLine; decide),fun p hp=>?_⟩⟩
  refine q (.ref p) (.put (f1 % (us.length:Int)).toNat t) _ (s1.trans (iQ.new hp _)) ⟨p,rfl,v,?_,T1.mono (iQ.new hp _)⟩ ⟨by omega,ok1,by omega⟩ trivial (fun z=>absurd z (by decide +kernel)) (fun _=>rfl)
  rw [dQ,<-eb]
 ·-- go
  refine ⟨_,rfl,rfl,_,rfl,nJ (by decide +kernel) ?_⟩
  refine ⟨_,rfl,rfl,_,rfl,nJ (by decide +kernel) ?_⟩
  refine ⟨_,rfl,rfl,_,rfl,nJ (by decide +kernel) ?_⟩
  refine ⟨_,rfl,(by show 0<=sizeLine; decide),fun l hl'=>?_⟩
  have sl:=iQ.new hl' (.lst [])
  have l2:upd H l (.lst []) l=some (.lst []):=dQ
  generalize upd H l (.lst [])=H2 at *
  have sp2:=sl _ _ hsp
  have h42:=sl _ _ h4
  refine ⟨psp,l,_,rfl,rfl,SqL.of sp2,SqL.of l2,_,rfl,?_⟩
  by_cases en:sps=[]
  ·subst en
   refine rV rfl ⟨(by show 1<=sizeLine; decide),fun p hp=>?_⟩
   exact q (.ref p) .stop _ (sl.trans (iQ.new hp _)) ⟨p,rfl,dQ⟩ trivial trivial (fun z=>absurd z (by decide +kernel)) (fun _=>rfl)
  ·have lp:0 < sps.length:=List.length_pos_iff.mpr en
   have ms:=pZ (a:=f1) (n:=((sps.map V.int).length:Int)) (by rw [List.length_map]; omega)
   obtain ⟨u,hu1,ha⟩:=d0Z (xs:=sps.map V.int) ms.1 ms.2
   rw [List.getElem?_map] at hu1
   obtain ⟨n,hn,rfl⟩:=Option.map_eq_some_iff.mp hu1
   have hnm:=List.mem_of_getElem? hn
   have en2:n=((n.toNat:Nat):Int):=by have:=(spo n hnm).1; omega
   refine nJ (by cases sps with | nil=>exact absurd rfl en | cons=>rfl) ?_
   refine ⟨_,rfl,rfl,_,rfl,nJ (by decide +kernel) ?_⟩
   refine ⟨_,rfl,_,rfl,p4,_,((1:Nat):Int),_,rfl,rfl,SqL.of h42,rfl,_,rfl,psp,_,rfl,.inl (SqL.of sp2),_,_,rfl,rfl,(by rw [List.length_map]; omega),psp,_,_,_,rfl,rfl,SqL.of sp2,ha,?_⟩
   refine ⟨_,rfl,rfl,_,rfl,rV (by decide +kernel) ⟨_,rfl,(by show 2<=sizeLine; decide),fun p hp=>?_⟩⟩
   refine q (.ref p) (.go n.toNat) _ (sl.trans (iQ.new hp _)) ⟨p,rfl,?_⟩ trivial (by show ((n.toNat:Nat):Int)∈sps; rw [<-en2]; exact hnm) (fun z=>absurd z (by decide +kernel)) (fun _=>rfl)
   show upd H2 p _ p=some (.tup [.str "go",.int ((n.toNat:Nat):Int)])
   rw [dQ,<-en2]
 ·-- if
  refine ⟨_,rfl,rfl,_,rfl,nJ (by decide +kernel) ?_⟩
  refine ⟨_,rfl,rfl,_,rfl,nJ (by decide +kernel) ?_⟩
  refine ⟨_,rfl,rfl,_,rfl,nJ (by decide +kernel) ?_⟩
  refine ⟨_,rfl,(by show 0<=sizeLine; decide),fun l hl'=>?_⟩
  have sl:=iQ.new hl' (.lst [])
  have l2:upd H l (.lst []) l=some (.lst []):=dQ
  generalize upd H l (.lst [])=H2 at *
  have sp2:=sl _ _ hsp
  have h42:=sl _ _ h4
  refine ⟨psp,l,_,rfl,rfl,SqL.of sp2,SqL.of l2,_,rfl,?_⟩
  by_cases en:sps=[]
  ·subst en
   refine rV rfl ⟨(by show 1<=sizeLine; decide),fun p hp=>?_⟩
   exact q (.ref p) .stop _ (sl.trans (iQ.new hp _)) ⟨p,rfl,dQ⟩ trivial trivial (fun z=>absurd z (by decide +kernel)) (fun _=>rfl)
  ·have lp:0 < sps.length:=List.length_pos_iff.mpr en
   have ms:=pZ (a:=f1) (n:=((sps.map V.int).length:Int)) (by rw [List.length_map]; omega)
   obtain ⟨u,hu1,ha⟩:=d0Z (xs:=sps.map V.int) ms.1 ms.2
   rw [List.getElem?_map] at hu1
   obtain ⟨n,hn,rfl⟩:=Option.map_eq_some_iff.mp hu1
   have hnm:=List.mem_of_getElem? hn
   have en2:n=((n.toNat:Nat):Int):=by have:=(spo n hnm).1; omega
   refine nJ (by cases sps with | nil=>exact absurd rfl en | cons=>rfl) ?_
   refine ⟨_,rfl,rfl,_,rfl,nJ (by decide +kernel) ?_⟩
   refine ⟨_,rfl,_,rfl,p4,_,((1:Nat):Int),_,rfl,rfl,SqL.of h42,rfl,_,rfl,psp,_,rfl,.inl (SqL.of sp2),_,_,rfl,rfl,(by rw [List.length_map]; omega),psp,_,_,_,rfl,rfl,SqL.of sp2,ha,?_⟩
   refine ⟨_,rfl,rfl,_,rfl,nJ (by decide +kernel) ?_⟩
   refine ⟨(by show 2<=sizeLine; decide),fun ls hls=>?_⟩
   have ss:=iQ.new hls (.lst [.str "<",.str "="])
   have l3:upd H2 ls (.lst [.str "<",.str "="]) ls=some (.lst [.str "<",.str "="]):=dQ
   have s3:=sl.trans ss
   generalize upd H2 ls (.lst [.str "<",.str "="])=H3 at *
   have m8:=pZ (a:=f1 / 8) (n:=2) (by decide)
   obtain ⟨lt,hlt⟩:∃ lt:Bool,atI [V.str "<",.str "="] (f1 / 8 % 2)=some (.str (sgn lt)):=by
    have:f1 / 8 % 2=0\/f1 / 8 % 2=1:=by omega
    rcases this with h | h
    ·rw [h]; exact ⟨true,rfl⟩
    ·rw [h]; exact ⟨false,rfl⟩
   refine ⟨_,rfl,p4,_,((1:Nat):Int),_,rfl,rfl,SqL.of (s3 _ _ h4),rfl,_,_,rfl,rfl,⟨by decide,by decide⟩,_,_,rfl,rfl,(by decide:(0:Int) < 2),ls,_,_,_,rfl,rfl,SqL.of l3,hlt,?_⟩
   refine ⟨_,rfl,_,rfl,p4,_,((2:Nat):Int),_,rfl,rfl,SqL.of (s3 _ _ h4),rfl,_,rfl,f2,pb,us,bs,rfl,f20,by omega,X.same s3,l1,l4,fun v t H4 s4 T4 ok4 le4=>?_⟩
   have s04:=s3.trans s4
   refine ⟨_,rfl,p4,_,((3:Nat):Int),_,rfl,rfl,SqL.of (s04 _ _ h4),rfl,_,rfl,f3,pb,us,bs,rfl,f30,by omega,X.same s04,l1,l4,fun v2 t2 H5 s5 T5 ok5 le5=>?_⟩
   refine ⟨_,rfl,(by show 5<=sizeLine; decide),fun p hp=>?_⟩
   have sp:=iQ.new hp (.tup [.str "if",.str (sgn lt),v,v2,.int n])
   refine q (.ref p) (.iff lt t t2 n.toNat) _ (s04.trans (s5.trans sp)) ⟨p,rfl,v,v2,?_,T4.mono (s5.trans sp),T5.mono sp⟩ ⟨⟨ok4,by omega⟩,ok5,by omega⟩ (by show ((n.toNat:Nat):Int)∈sps; rw [<-en2]; exact hnm) (fun z=>absurd z (by decide +kernel)) (fun _=>rfl)
   rw [dQ,<-en2]
 ·-- stop
  refine ⟨_,rfl,rfl,_,rfl,nJ (by decide +kernel) ?_⟩
  refine ⟨_,rfl,rfl,_,rfl,nJ (by decide +kernel) ?_⟩
  refine ⟨_,rfl,rfl,_,rfl,nJ (by decide +kernel) ?_⟩
  refine ⟨_,rfl,(by show 0<=sizeLine; decide),fun l hl'=>?_⟩
  have sl:=iQ.new hl' (.lst [])
  have l2:upd H l (.lst []) l=some (.lst []):=dQ
  generalize upd H l (.lst [])=H2 at *
  have sp2:=sl _ _ hsp
  refine ⟨psp,l,_,rfl,rfl,SqL.of sp2,SqL.of l2,_,rfl,?_⟩
  have fin:∀ p,H2 p=none->Q (.ref p) (upd H2 p (.tup [.str "stop"])):=fun p hp=>q (.ref p) .stop _ (sl.trans (iQ.new hp _)) ⟨p,rfl,dQ⟩ trivial trivial (fun z=>absurd z (by decide +kernel)) (fun _=>rfl)
  by_cases en:sps=[]
  ·subst en
   exact rV rfl ⟨(by show 1<=sizeLine; decide),fin⟩
  ·refine nJ (by cases sps with | nil=>exact absurd rfl en | cons=>rfl) ?_
   exact ⟨_,rfl,rfl,_,rfl,rV (by decide +kernel) ⟨(by show 1<=sizeLine; decide),fin⟩⟩
end
def spAllSo:Sp:=fun vs H Q _=>∃ (pl pv':Addr) (xs:List (V × Say)) (ns:List Int),vs=[.ref pl,.ref pv']/\H pl=some (.lst (xs.map Prod.fst))/\(∀ x∈xs,mV H x.1 x.2/\x.2.In ns.length/\ROk x.2)/\H pv'=some (.tup (ns.map V.int))/\(∀ n∈ns,-1000 < n/\n < 1000)/\Q (.bl (xs.all fun x=>x.2.so ns)) H
section
theorem k1Z:yQ ["some","values","saying"] ["some","values"] (gQ i1Q):=(by wtm_at "f")
theorem a7Z (h:Has K mg "_law_all_so" i1Q ["some","values"]) (cS:Cal P w K mg base 1 "_law_so" ["saying","values"] spLSo):Cal P w K mg base 2 "_law_all_so" ["some","values"] spAllSo:=by
 refine h.cal k1Z (fun vs H Q E h=>?_) (fun f cdv A outer s H vs Q E hr h=>?_)
 ·obtain ⟨_,_,_,_,rfl,_⟩:=h
  rfl
 obtain ⟨pl,pv',xs,ns,rfl,hpl,xo,hv,nb,q⟩:=h
 have hr1:sZ 1 _:=hr
 refine ⟨_,(bQ (uZ PassesOwn.never rfl (xZ (pv 0)) (uQ (i:=2) k1Z.nd rfl (Or.inl rfl)) (fQ (cZ (nW (lJ (wQ cS hr1 rfl (aQ (pv 2) (aQ (pv 1) eQ))))) (fQ (oQ jW)) sQ)))
  (fQ (oQ jW))),?_⟩
 refine ⟨_,rfl,pl,rfl,⟨_,SqL.of hpl⟩,kX (K:=K) (a:=pl) (xs:=xs.map Prod.fst) (fun i σ H2=>(∃ c2:Option V,σ=[some (.ref pl),some (.ref pv'),c2])/\H2=H/\∀ x∈xs.take i,x.2.so ns=true)
  ⟨⟨none,rfl⟩,rfl,(fun o ho=>nomatch ho)⟩ (fun i σ H2 _ ⟨_,e,_⟩=>by rw [e]; exact SqL.of hpl) ?_ ?_⟩
 ·rintro i y σ H2 hi ⟨⟨c2,rfl⟩,rfl,hall⟩
  rw [List.getElem?_map] at hi
  obtain ⟨x,hx,rfl⟩:=Option.map_eq_some_iff.mp hi
  have hm:=List.mem_of_getElem? hx
  obtain ⟨⟨ps,ep,hps⟩,xin,xro⟩:=xo x hm
  rw [ep]
  refine ⟨_,rfl,_,rfl,ps,pv',x.2,ns,rfl,hps,hv,xin,xro,nb,_,rfl,?_⟩
  cases e:x.2.so ns with
  | false =>
   refine iteT ?_
   have q':=q
   rw [r2Z (f:=fun x:V × Say=>x.2.so ns) hm e] at q'
   exact q'
  | true =>
   refine kY ?_
   refine ⟨⟨_,rfl⟩,rfl,fun o' ho'=>?_⟩
   rw [List.take_add_one,hx] at ho'
   rcases List.mem_append.mp ho' with z | z
   ·exact hall o' z
   ·rw [List.mem_singleton.mp z]
    exact e
 ·rintro σ H2 ⟨⟨c2,rfl⟩,rfl,hall⟩
  rw [List.length_map,List.take_length] at hall
  rw [t5Z hall] at q
  exact q
end
def So (es:List Ent) (z:Str) (v:List Int):Prop:=∀ e∈es,e.1=z->∀ x∈e.2,x.2.so v=true
def Rgt (bs:List Box) (rs:List Row) (es:List Ent):Prop:=(∀ z v,Cf bs rs (0,bs.map Box.fst) z v->So es z v)/\∀ z∈mks rs,∀ v∈wZ bs,So es z v->∀ z' v',CnP bs rs z v z' v'->So es z' v'
theorem u5Q {bs:List Box} {rs:List Row} (aims:∀ r∈rs,r.Aims rs) {s:Nat × List Int} {z:Str} {v:List Int} (h:Cf bs rs s z v) (hw:Within bs s.2):Within bs v/\z∈mks rs:=by
 rcases h with ⟨h,rfl⟩ | ⟨_,h⟩
 ·exact ⟨hw,List.mem_filterMap.mpr ⟨_,List.mem_of_getElem? h,rfl⟩⟩
 ·exact p5Q aims h hw
theorem f4Q {bs:List Box} {rs:List Row} (aims:∀ r∈rs,r.Aims rs) {z z':Str} {v v':List Int} (h:CnP bs rs z v z' v') (hw:Within bs v):Within bs v'/\z'∈mks rs:=by
 obtain ⟨k,_,h⟩:=h
 exact p5Q aims h hw
theorem g4Q:∀ {es:List Ent} {a b:Ent},(es.map Prod.fst).Nodup->a∈es->b∈es->a.1=b.1->a=b
 | [],_,_,_,h,_,_=>nomatch h
 | e :: es,a,b,nd,ha,hb,h=>by
  rw [List.map_cons,List.nodup_cons] at nd
  rcases List.mem_cons.mp ha with e1 | h1
  ·rcases List.mem_cons.mp hb with e2 | h2
   ·rw [e1,e2]
   ·exact absurd (by rw [<-e1,h]; exact List.mem_map.mpr ⟨b,h2,rfl⟩) nd.1
  ·rcases List.mem_cons.mp hb with e2 | h2
   ·exact absurd (by rw [<-e2,<-h]; exact List.mem_map.mpr ⟨a,h1,rfl⟩) nd.1
   ·exact g4Q nd.2 h1 h2 h
theorem b7Z {es:List Ent} {e:Ent} {v:List Int} (nd:(es.map Prod.fst).Nodup) (he:e∈es):So es e.1 v ↔ (e.2.all fun x=>x.2.so v)=true:=by
 rw [List.all_eq_true]
 constructor
 ·intro h x hx
  exact h e he rfl x hx
 ·intro h e' he' e1 x hx
  rw [g4Q nd he' he e1] at hx
  exact h x hx
theorem w6Q {bs:List Box} {rs:List Row} {es:List Ent} (ok:∀ b∈bs,b.Ok) (O:xW bs rs) (nd:(mks rs).Nodup) (en:es.map Prod.fst=mks rs):isR bs rs es=true ↔ Rgt bs rs es:=by
 have hU:isR bs rs es=true ↔ ∀ e∈es,∀ x∈e.2,v1Q bs rs es e x=true:=by
  unfold isR
  rw [List.all_eq_true]
  constructor
  ·intro h e he
   exact List.filter_eq_self.mp (List.Sublist.eq_of_length List.filter_sublist (of_decide_eq_true (h e he)))
  ·intro h e he
   exact decide_eq_true (by rw [List.filter_eq_self.mpr (h e he)])
 rw [hU]
 have nde:(es.map Prod.fst).Nodup:=by rw [en]; exact nd
 constructor
 ·intro h
  refine ⟨fun z v c e he ez x hx=>?_,fun z hz v hv hs z' v' c e he ez x hx=>?_⟩
  ·have w:=u5Q O.aims c (d4Q ok)
   exact iK.mp (h e he x hx) v (yK ok w.1) (.inl (by rw [ez]; exact c))
  ·have w:=f4Q O.aims c (mU ok hv)
   rw [<-en] at hz
   obtain ⟨e0,he0,ez0⟩:=List.mem_map.mp hz
   refine iK.mp (h e he x hx) v' (yK ok w.1) (.inr ⟨e0,he0,v,hv,fun y hy=>hs e0 he0 ez0 y hy,?_⟩)
   rw [ez0,ez]; exact c
 ·rintro ⟨h1,h2⟩ e he x hx
  refine iK.mpr fun v hv c=>?_
  rcases c with c | ⟨e0,he0,u,hu,hs,c⟩
  ·exact h1 _ _ c e he rfl x hx
  ·have hz0:e0.1∈mks rs:=by rw [<-en]; exact List.mem_map.mpr ⟨e0,he0,rfl⟩
   exact h2 e0.1 hz0 u hu ((b7Z nde he0).mpr (List.all_eq_true.mpr hs)) _ _ c e he rfl x hx
def LeS (es' es:List Ent):Prop:=tX (fun (e' e:Ent)=>e'.1=e.1/\∀ x∈e'.2,∃ y∈e.2,y.2=x.2) es' es
theorem p8Q {n:Nat}:∀ {es:List Ent},(∀ e∈es,e.2.length<=n)->sumL es<=n * es.length
 | [],_=>Nat.le_refl _
 | e :: r,h=>by
  have h1:=p8Q (es:=r) fun x hx=>h x (List.mem_cons_of_mem _ hx)
  have h2:=h e List.mem_cons_self
  unfold sumL at h1 ⊢
  rw [List.map_cons,List.sum_cons,List.length_cons,Nat.mul_succ]
  omega
theorem uJ.le {es' es:List Ent} (h:uJ es' es):LeS es' es:=h.mono fun e' e ⟨h1,f,h2⟩=>⟨h1,fun x hx=>⟨x,by rw [h2] at hx; exact (List.mem_filter.mp hx).1,rfl⟩⟩
theorem s3Z {vl:List (List Int)} {S0:Str->List Int->Prop} {Cn:Nx} {es' es:List Ent} (h:LeS es' es) {z:Str} {u:List Int} (c:Come vl S0 Cn es z u):Come vl S0 Cn es' z u:=by
 rcases c with c | ⟨e,he,v,hv,hs,hc⟩
 ·exact .inl c
 ·obtain ⟨i,hi⟩:=List.mem_iff_getElem?.mp he
  have il:=(List.getElem?_eq_some_iff.mp hi).1
  have hl:=h.1
  obtain ⟨e',e0,h1,h2,em,hsub⟩:=h.get (i:=i) (by omega)
  rw [hi] at h2
  cases h2
  refine .inr ⟨e',List.mem_of_getElem? h1,v,hv,fun x hx=>?_,by rw [em]; exact hc⟩
  obtain ⟨y,hy,ey⟩:=hsub x hx
  rw [<-ey]
  exact hs y hy
theorem b2X {bs:List Box} {rs:List Row} {es' es:List Ent} (h:LeS es' es):LeS (U bs rs es') (U bs rs es):=by
 refine ⟨by unfold U; rw [List.length_map,List.length_map]; exact h.1,fun i x y hx hy=>?_⟩
 unfold U at hx hy
 rw [List.getElem?_map] at hx hy
 obtain ⟨e',he',rfl⟩:=Option.map_eq_some_iff.mp hx
 obtain ⟨e,he,rfl⟩:=Option.map_eq_some_iff.mp hy
 obtain ⟨em,hsub⟩:=h.2 i e' e he' he
 refine ⟨em,fun x hx=>?_⟩
 obtain ⟨h1,h2⟩:=List.mem_filter.mp hx
 obtain ⟨y,hy,ey⟩:=hsub x h1
 refine ⟨y,List.mem_filter.mpr ⟨hy,iK.mpr fun v hv hc=>?_⟩,ey⟩
 rw [ey]
 exact iK.mp h2 v hv (by rw [em]; exact s3Z h hc)
theorem l1Z {bs:List Box} {rs:List Row} {es' es:List Ent} (h:LeS es' es):∀ n,LeS (Ui bs rs n es') (Ui bs rs n es)
 | 0=>h
 | n + 1=>b2X (l1Z h n)
theorem j9Z {bs:List Box} {rs:List Row} {es' es:List Ent} (h:LeS es' es):LeS (gr bs rs es') (gr bs rs es):=by
 have e1:=c4Q (pU bs rs es') (sumL es)
 have e2:=c4Q (pU bs rs es) (sumL es')
 have h3:=l1Z (bs:=bs) (rs:=rs) h (sumL es' + sumL es)
 rw [e1] at h3
 rw [Nat.add_comm,e2] at h3
 exact h3
theorem x6Q {bs:List Box} {rs:List Row} {es:List Ent} (h:U bs rs es=es):gr bs rs es=es:=(f0X (n:=0) h).symm
theorem e0Z (bs:List Box) (rs:List Row) (es:List Ent):(gr bs rs es).map Prod.fst=es.map Prod.fst:=v6Z bs rs es _
theorem z0Q (bs:List Box) (rs:List Row) (es:List Ent):uJ (gr bs rs es) es:=s6Q bs rs es _
noncomputable def kpt (T:Str->List Int->Prop) (es:List Ent):List Ent:=es.map fun e=>(e.1,e.2.filter fun x=>@decide (∀ v,T e.1 v->x.2.so v=true) (Classical.propDecidable _))
theorem y6Q (T:Str->List Int->Prop) (es:List Ent):(kpt T es).map Prod.fst=es.map Prod.fst:=by unfold kpt; rw [List.map_map]; rfl
theorem h4Q {T:Str->List Int->Prop} {es' es:List Ent} (h:uJ es' es):uJ (kpt T es') es:=by
 refine ⟨by unfold kpt; rw [List.length_map]; exact h.1,fun i x y hx hy=>?_⟩
 unfold kpt at hx
 rw [List.getElem?_map] at hx
 obtain ⟨e',he',rfl⟩:=Option.map_eq_some_iff.mp hx
 obtain ⟨e1,f,e2⟩:=h.2 i e' y he' hy
 refine ⟨e1,fun s=>f s && @decide (∀ v,T e'.1 v->s.so v=true) (Classical.propDecidable _),?_⟩
 show e'.2.filter _=_
 rw [e2,List.filter_filter]
 exact List.filter_congr fun x _=>Bool.and_comm _ _
theorem c7Z {T:Str->List Int->Prop} {es:List Ent} {z:Str} {v:List Int} (h:T z v):So (kpt T es) z v:=by
 intro e he ez x hx
 obtain ⟨e0,he0,rfl⟩:=List.mem_map.mp he
 have:=(@decide_eq_true_iff _ (Classical.propDecidable _)).mp (List.mem_filter.mp hx).2
 exact this v (by rw [ez]; exact h)
theorem m1Z {es' es:List Ent} (h:LeS es' es) {z:Str} {v:List Int} (s:So es z v):So es' z v:=by
 intro e' he' ez x hx
 obtain ⟨i,hi⟩:=List.mem_iff_getElem?.mp he'
 obtain ⟨e,he,e1,h1⟩:=h.at hi
 obtain ⟨y,hy,ey⟩:=h1 x hx
 rw [<-ey]
 exact s e (List.mem_of_getElem? he) (e1.symm.trans ez) y hy
theorem d7Z {T:Str->List Int->Prop} {g es:List Ent} (h:LeS g es) (ht:∀ z v,T z v->So g z v):LeS g (kpt T es):=by
 refine ⟨by unfold kpt; rw [List.length_map]; exact h.1,fun i x y hx hy=>?_⟩
 unfold kpt at hy
 rw [List.getElem?_map] at hy
 obtain ⟨e,he,rfl⟩:=Option.map_eq_some_iff.mp hy
 obtain ⟨e1,h1⟩:=h.2 i x e hx he
 refine ⟨e1,fun u hu=>?_⟩
 obtain ⟨y,hy,ey⟩:=h1 u hu
 refine ⟨y,List.mem_filter.mpr ⟨hy,(@decide_eq_true_iff _ (Classical.propDecidable _)).mpr fun v hv=>?_⟩,ey⟩
 rw [ey]
 exact ht e.1 v hv x (List.mem_of_getElem? hx) e1 u hu
theorem k9Z {a b c:List Ent} (ha:uJ a c) (hb:uJ b c) (h1:LeS a b) (h2:LeS b a):a=b:=by
 apply List.ext_getElem?
 intro i
 have l1:=ha.1
 have l2:=hb.1
 by_cases hi:i < c.length
 ·obtain ⟨x,z,hx,hz,e1,f,e2⟩:=ha.get (i:=i) hi
  obtain ⟨y,z',hy,hz',e3,g,e4⟩:=hb.get (i:=i) hi
  rw [hz] at hz'
  cases hz'
  rw [hx,hy]
  obtain ⟨_,s1⟩:=h1.2 i x y hx hy
  obtain ⟨_,s2⟩:=h2.2 i y x hy hx
  have:x.2=y.2:=by
   rw [e2,e4]
   refine List.filter_congr fun u hu=>?_
   rw [Bool.eq_iff_iff]
   constructor
   ·intro hf
    obtain ⟨w,hw,ew⟩:=s1 u (by rw [e2]; exact List.mem_filter.mpr ⟨hu,hf⟩)
    rw [e4] at hw
    rw [<-ew]
    exact (List.mem_filter.mp hw).2
   ·intro hg
    obtain ⟨w,hw,ew⟩:=s2 u (by rw [e4]; exact List.mem_filter.mpr ⟨hu,hg⟩)
    rw [e2] at hw
    rw [<-ew]
    exact (List.mem_filter.mp hw).2
  rw [Prod.ext (e1.trans e3.symm) this]
 ·rw [List.getElem?_eq_none (by omega),List.getElem?_eq_none (by omega)]
theorem wU:∀ {es' es:List Ent},uJ es' es->sumL es'<=sumL es/\(sumL es'=sumL es->es'=es)
 | [],[],_=>⟨Nat.le_refl _,fun _=>rfl⟩
 | [],_ :: _,h=>nomatch h.1
 | _ :: _,[],h=>nomatch h.1
 | e' :: r',e :: r,h=>by
  obtain ⟨e1,f,e2⟩:=h.2 0 e' e rfl rfl
  have ht:uJ r' r:=⟨by have:=h.1; simpa using this,fun i x y hx hy=>h.2 (i + 1) x y (by simpa using hx) (by simpa using hy)⟩
  obtain ⟨i1,i2⟩:=wU ht
  have hl:e'.2.length<=e.2.length:=by rw [e2]; exact List.length_filter_le _ _
  have s1:sumL (e' :: r')=e'.2.length + sumL r':=by unfold sumL; rw [List.map_cons,List.sum_cons]
  have s2:sumL (e :: r)=e.2.length + sumL r:=by unfold sumL; rw [List.map_cons,List.sum_cons]
  rw [s1,s2]
  refine ⟨by omega,fun hs=>?_⟩
  have hr:r'=r:=i2 (by omega)
  have he:e'.2=e.2:=by
   have hq:e'.2.length=e.2.length:=by omega
   rw [e2] at hq ⊢
   exact List.Sublist.eq_of_length List.filter_sublist hq
  rw [hr,Prod.ext e1 he]
theorem l9Z {bs:List Box} {rs:List Row} {es0 es:List Ent} (hp:uJ es es0) (hg:LeS (gr bs rs es0) es) (hr:isR bs rs es=true):es=gr bs rs es0:=by
 refine k9Z hp (z0Q bs rs es0) ?_ hg
 have h1:=j9Z (bs:=bs) (rs:=rs) hp.le
 rw [x6Q (zK.mp hr)] at h1
 exact h1
structure dW (G H:Hp) (t:Addr) (kv:List (Key × V)) (es:List Ent):Prop where
 at_:H t=some (.dK kv)
 ks:kv.map (·.1)=es.map fun e=>(Sum.inr e.1:Key)
 each:∀ e∈es,∃ l,vZ kv (Sum.inr e.1)=some (.ref l)/\G l=none/\H l=some (.lst (e.2.map Prod.fst))/\∀ x∈e.2,mV H x.1 x.2
theorem dW.same {G H H':Hp} {t:Addr} {kv:List (Key × V)} {es:List Ent} (h:dW G H t kv es) (s:iQ H H'):dW G H' t kv es:=
 ⟨s _ _ h.at_,h.ks,fun e he=>let ⟨l,h1,hg,h2,h3⟩:=h.each e he; ⟨l,h1,hg,s _ _ h2,fun x hx=>(h3 x hx).same s⟩⟩
theorem t3Z {kvs:List (Key × V)} {k:Key} {y:V} (h:k∈kvs.map (·.1)):(dX kvs k y).map (·.1)=kvs.map (·.1):=by
 unfold dX
 rw [if_pos (by
  obtain ⟨kv,hkv,e⟩:=List.mem_map.mp h
  exact List.any_eq_true.mpr ⟨kv,hkv,decide_eq_true e⟩),List.map_map]
 refine List.map_congr_left fun kv _=>?_
 show (if kv.1=k then (kv.1,y) else kv).1=kv.1
 split <;> rfl
def thin (z:Str) (v:List Int) (e:Ent):Ent:=if e.1=z then (e.1,e.2.filter fun x=>x.2.so v) else e
theorem q8Q (z:Str) (v:List Int) (e:Ent):(thin z v e).1=e.1:=by unfold thin; split <;> rfl
theorem e7Z {T T':Str->List Int->Prop} {es:List Ent} {z:Str} {v:List Int} (h:∀ z' v',T' z' v' ↔ T z' v'\/(z'=z/\v'=v)):(kpt T es).map (thin z v)=kpt T' es:=by
 unfold kpt
 rw [List.map_map]
 refine List.map_congr_left fun e _=>?_
 show thin z v (e.1,_)=_
 unfold thin
 by_cases ez:e.1=z
 ·rw [if_pos ez]
  refine Prod.ext rfl ?_
  show List.filter _ (List.filter _ e.2)=_
  rw [List.filter_filter]
  refine List.filter_congr fun x _=>?_
  rw [Bool.eq_iff_iff,Bool.and_eq_true,@decide_eq_true_iff _ (Classical.propDecidable _),@decide_eq_true_iff _ (Classical.propDecidable _)]
  constructor
  ·rintro ⟨h1,h2⟩ v' hv'
   rcases (h _ _).mp hv' with h3 | ⟨_,rfl⟩
   ·exact h2 v' h3
   ·exact h1
  ·intro h1
   exact ⟨h1 v ((h _ _).mpr (.inr ⟨ez,rfl⟩)),fun v' hv'=>h1 v' ((h _ _).mpr (.inl hv'))⟩
 ·rw [if_neg ez]
  refine Prod.ext rfl ?_
  refine List.filter_congr fun x _=>?_
  rw [Bool.eq_iff_iff,@decide_eq_true_iff _ (Classical.propDecidable _),@decide_eq_true_iff _ (Classical.propDecidable _)]
  constructor
  ·intro h1 v' hv'
   rcases (h _ _).mp hv' with h3 | ⟨h3,_⟩
   ·exact h1 v' h3
   ·exact absurd h3 ez
  ·intro h1 v' hv'
   exact h1 v' ((h _ _).mpr (.inl hv'))
theorem u3Z {T T':Str->List Int->Prop} {es:List Ent} (h:∀ z v,T z v ↔ T' z v):kpt T es=kpt T' es:=by
 have:T=T':=by funext z v; exact propext (h z v)
 rw [this]
theorem f7Z {T:Str->List Int->Prop} {es:List Ent} (h:∀ z v,¬ T z v):kpt T es=es:=by
 unfold kpt
 conv=>rhs; rw [<-List.map_id es]
 refine List.map_congr_left fun e _=>Prod.ext rfl ?_
 exact List.filter_eq_self.mpr fun x _=>(@decide_eq_true_iff _ (Classical.propDecidable _)).mpr fun v hv=>absurd hv (h _ _)
theorem gK.uniq {H:Hp} {r:Addr} {z z':Str} {v v':List Int} (h:gK H r z v) (h':gK H r z' v'):z'=z/\v'=v:=by
 obtain ⟨pz,p1,p2⟩:=h
 obtain ⟨pz',p1',p2'⟩:=h'
 rw [p1] at p1'
 cases p1'
 rw [p2] at p2'
 have e2:=HO.tup.inj (Option.some.inj p2')
 exact ⟨rfl,(List.map_inj_right (fun _ _ h=>V.int.inj h) |>.mp e2).symm⟩
def spKeep:Sp:=fun vs H Q _=>∃ (G:Hp) (t lc:Addr) (bs:List Box) (kv:List (Key × V)) (es:List Ent) (rl:List Addr) (T:Str->List Int->Prop),vs=[.ref t,.ref lc]/\iQ G H/\G t=none/\dW G H t kv es/\(es.map Prod.fst).Nodup/\es.length<=60/\(∀ e∈es,e.2.length<=100/\∀ x∈e.2,x.2.In bs.length/\ROk x.2)/\H lc=some (.lst (rl.map V.ref))/\Met H rl T/\(∀ b∈bs,b.Ok)/\(∀ z v,T z v->z∈es.map Prod.fst/\Within bs v) /\
 ∀ (H':Hp) (kv':List (Key × V)),But t H H'->dW G H' t kv' (kpt T es)->Q .non H'
section
theorem f0Z:yQ ["left","coming","mark","values"] ["left","coming"] (gQ g3Q):=(by wtm_at "f")
theorem m9Z (h:Has K mg "_law_keep" g3Q ["left","coming"]) (cS:Cal P w K mg base 1 "_law_so" ["saying","values"] spLSo):Cal P w K mg base 2 "_law_keep" ["left","coming"] spKeep:=by
 refine h.cal f0Z (fun vs H Q E h=>?_) (fun f cdv A outer s H vs Q E hr h=>?_)
 ·obtain ⟨_,_,_,_,_,_,_,_,rfl,_⟩:=h
  rfl
 obtain ⟨G,t,lc,bs,kv,es,rl,T,rfl,sG,Gt,L0,nd,l60,eo,hlc,M0,ok,tw,q⟩:=h
 have hu:=uY hr
 have hr1:sZ 1 _:=hr
 refine ⟨_,(fQ (uZ PassesOwn.never rfl (xZ (pv 1)) (pgt K 2 rfl (jZ (uQ (i:=2) f0Z.nd rfl (Or.inl rfl)) (jZ (uQ (i:=3) f0Z.nd rfl (Or.inr rfl)) dJ))) (fQ (lK hu (pv 0) (pv 2) (nY (gQ g3Q) ["left","coming","mark","values"] (N:=["one","values"]) (ix:=[none,some 3]) rfl (by wtm_at "g") (xZ (aV hu (pv 0) (pv 2) (fun _ _=>rfl))) (fun _ _ _ _=>uQ (i:=0) (show (["one","values"]:List Str).Nodup by decide +kernel) rfl (Or.inl rfl)) (fun _ _ _ _=>(e2Q (lJ (wQ cS hr1 rfl (aQ (pv 0) (aQ (pv 1) eQ)))))) (fun _ _ _ _=>(pv 0))) rfl)))),?_⟩
 have lct:lc≠t:=fun z=>by rw [z,L0.at_] at hlc; cases hlc
 have T0:iQ H H:=iQ.refl H
 refine ⟨_,rfl,lc,rfl,⟨_,SqL.of hlc⟩,kX (K:=K) (a:=lc) (xs:=rl.map V.ref) (fun i σ H'=>(∃ c2 c3:Option V,σ=[some (.ref t),some (.ref lc),c2,c3])/\But t H H'/\∃ kv',dW G H' t kv' (kpt (fun z v=>∃ r∈rl.take i,gK H r z v) es))
  ⟨⟨none,none,rfl⟩,But.refl _ _,kv,by rw [f7Z (fun z v ⟨r,hr,_⟩=>nomatch hr)]; exact L0⟩ (fun i σ H' _ hh=>SqL.of (hh.2.1 _ _ lct hlc)) ?_ ?_⟩
 ·rintro i y σ H1 hi ⟨⟨c2,c3,rfl⟩,b1,kv1,L1⟩
  rw [List.getElem?_map] at hi
  obtain ⟨r,hr0,rfl⟩:=Option.map_eq_some_iff.mp hi
  obtain ⟨z,v,PS,c⟩:=M0.to r (List.mem_of_getElem? hr0)
  obtain ⟨pz,p1,p2⟩:=id PS
  obtain ⟨hz,W⟩:=tw z v c
  have tup:∀ {b:Addr} {xs:List V},H b=some (.tup xs)->H1 b=some (.tup xs):=fun h=>b1 _ _ (fun z=>by rw [z,L0.at_] at h; cases h) h
  refine ⟨r,_,rfl,SqT.of (tup p1),rfl,_,_,rfl,_,_,rfl,rfl,?_⟩
  have hz':z∈(kpt (fun z v=>∃ r∈rl.take i,gK H r z v) es).map Prod.fst:=by rw [y6Q]; exact hz
  obtain ⟨e,he,ez⟩:=List.mem_map.mp hz'
  obtain ⟨l,v1,_,hl,hs⟩:=L1.each e he
  rw [ez] at v1
  refine ⟨_,rfl,_,rfl,t,_,rfl,?_,l,rfl,⟨_,SqL.of hl⟩,fun D hD=>?_⟩
  ·have:=aY.k (k:=Sum.inr z) L1.at_
   rw [v1] at this
   exact this
  have nd':((kpt (fun z v=>∃ r∈rl.take i,gK H r z v) es).map Prod.fst).Nodup:=by rw [y6Q]; exact nd
  obtain ⟨e0,he0,hsub,hlen⟩:∃ e0∈es,(∀ x∈e.2,x∈e0.2)/\e.2.length<=e0.2.length:=by
   obtain ⟨e0,he0,rfl⟩:=List.mem_map.mp he
   exact ⟨e0,he0,fun x hx=>(List.mem_filter.mp hx).1,List.length_filter_le _ _⟩
  obtain ⟨el,eo'⟩:=eo e0 he0
  have hvl:=W.1
  have Dt:D≠t:=fun z=>by rw [z,L1.at_] at hD; cases hD
  refine qV (K:=K) (a:=l) (xs:=e.2.map Prod.fst) (fun j ys σ H'=>(∃ c0:Option V,σ=[c0,some (.ref pz)])/\ys=((e.2.take j).filter fun x=>x.2.so v).map Prod.fst/\H' D=some (.lst ys)/\iQ H1 H')
   ⟨⟨none,rfl⟩,rfl,dQ,iQ.new hD _⟩ (fun j ys σ H' _ hh=>SqL.of (hh.2.2.2 _ _ hl)) ?_ ?_
  ·rintro j y ys σ H2 hj ⟨⟨c0,rfl⟩,rfl,D2,s2⟩
   rw [List.getElem?_map] at hj
   obtain ⟨x,hx,rfl⟩:=Option.map_eq_some_iff.mp hj
   have hxm:=List.mem_of_getElem? hx
   have jl:=(List.getElem?_eq_some_iff.mp hx).1
   obtain ⟨ps,ep,hps⟩:=(hs x hxm).same s2
   obtain ⟨xin,xro⟩:=eo' x (hsub x hxm)
   have ft:=s5Q (f:=fun x:V × Say=>x.2.so v) hx
   rw [ep]
   refine ⟨_,rfl,_,rfl,ps,pz,x.2,v,rfl,hps,s2 _ _ (tup p2),by rw [<-hvl]; exact xin,xro,W.sm ok,_,rfl,?_⟩
   cases hb:x.2.so v with
   | true =>
    rw [if_pos hb] at ft
    have hyl:=List.length_filter_le (fun x:V × Say=>x.2.so v) (e.2.take j)
    rw [List.length_take] at hyl
    exact iteT ⟨_,rfl,D2,eZ (by rw [List.length_map]; omega),⟨_,rfl⟩,by rw [ft,List.map_append,<-ep]; rfl,dQ,fun c o e=>by rw [kQ (jQ e hD)]; exact s2 _ _ e⟩
   | false =>
    rw [if_neg (by rw [hb]; exact fun z=>nomatch z),List.append_nil] at ft
    exact kY ⟨⟨_,rfl⟩,by rw [ft],D2,s2⟩
  rintro ys σ H2 ⟨_,rfl,D2,s2⟩
  rw [List.length_map,List.take_length] at D2
  have L2':=L1.same s2
  have kl:kv1.length<=60:=by
   have:=congrArg List.length L1.ks
   rw [List.length_map,List.length_map] at this
   have h2:=congrArg List.length (y6Q (fun z v=>∃ r∈rl.take i,gK H r z v) es)
   rw [List.length_map,List.length_map] at h2
   omega
  refine ⟨_,rfl,_,rfl,t,_,rfl,DPut.k (k:=Sum.inr z) L2'.at_ (by rw [sizeLine_eq]; omega),?_⟩
  have b3:But t H2 (upd H2 t (.dK (dX kv1 (Sum.inr z) (.ref D)))):=But.upd _
  have nl:∀ {b:Addr} {u:HO},H2 b=some u->(∀ k,u ≠ .dK k)->upd H2 t (.dK (dX kv1 (Sum.inr z) (.ref D))) b=some u:=fun hb hk=>b3 _ _ (fun x=>by rw [x,L2'.at_] at hb; exact hk _ (Option.some.inj hb).symm) hb
  have say3:∀ {x:V × Say},mV H2 x.1 x.2->mV (upd H2 t (.dK (dX kv1 (Sum.inr z) (.ref D)))) x.1 x.2:=fun ⟨p,ep,hp⟩=>⟨p,ep,nl hp (fun k h=>nomatch h)⟩
  refine ⟨⟨_,_,rfl⟩,fun c o n h=>b3 c o n (s2 _ _ (b1 c o n h)),dX kv1 (Sum.inr z) (.ref D),?_⟩
  rw [<-e7Z (T:=fun z v=>∃ r∈rl.take i,gK H r z v) (z:=z) (v:=v) fun z' v'=>?_]
  ·refine ⟨dQ,?_,fun e' he'=>?_⟩
   ·rw [t3Z (by rw [L1.ks]; exact List.mem_map.mpr ⟨e,he,by rw [ez]⟩),L1.ks,List.map_map]
    refine List.map_congr_left fun a _=>?_
    show _=Sum.inr (thin z v a).1
    rw [q8Q]
   ·obtain ⟨a,ha,rfl⟩:=List.mem_map.mp he'
    rw [q8Q]
    by_cases az:a.1=z
    ·have ae:a=e:=g4Q nd' ha he (az.trans ez.symm)
     subst ae
     refine ⟨D,by rw [bJ,if_pos (by rw [az])],?_,?_,fun x hx=>?_⟩
     ·cases hg:G D with
      | none=>rfl
      | some o=>rw [b1 _ _ Dt (sG _ _ hg)] at hD; cases hD
     ·unfold thin
      rw [if_pos az]
      exact nl D2 (fun k h=>nomatch h)
     ·unfold thin at hx
      rw [if_pos az] at hx
      exact say3 ((hs x (List.mem_filter.mp hx).1).same s2)
    ·obtain ⟨l',w1,wg,w2,w3⟩:=L2'.each a ha
     refine ⟨l',by rw [bJ,if_neg (fun h=>az (Sum.inr.inj h))]; exact w1,wg,?_,fun x hx=>?_⟩
     ·unfold thin
      rw [if_neg az]
      exact nl w2 (fun k h=>nomatch h)
     ·unfold thin at hx
      rw [if_neg az] at hx
      exact say3 (w3 x hx)
  ·rw [List.take_add_one,hr0]
   constructor
   ·rintro ⟨r',hr',hp'⟩
    rcases List.mem_append.mp hr' with h | h
    ·exact .inl ⟨r',h,hp'⟩
    ·have er:r'=r:=by simpa using h
     subst er
     exact .inr (PS.uniq hp')
   ·rintro (⟨r',hr',hp'⟩ | ⟨rfl,rfl⟩)
    ·exact ⟨r',List.mem_append_left _ hr',hp'⟩
    ·exact ⟨r,List.mem_append_right _ (by simp),PS⟩
 ·rintro σ H1 ⟨⟨c2,c3,rfl⟩,b1,kv1,L1⟩
  refine q H1 kv1 b1 ?_
  rw [List.length_map,List.take_length] at L1
  rw [u3Z (T':=fun z v=>∃ r∈rl,gK H r z v) (fun z v=>⟨fun h=>M0.of z v h,fun ⟨r,hr,h⟩=>?_⟩)]
  ·exact L1
  ·obtain ⟨z',v',h',c⟩:=M0.to r hr
   obtain ⟨rfl,rfl⟩:=h'.uniq h
   exact c
end
theorem xO (ks:List Str):∀ (i:Nat) (m:Int),m∈nZ ks i->∃ k:Nat,m=(k:Int)/\k < i/\ks[k]?=some ("mark":Str)
 | 0,m,h=>by cases h
 | i + 1,m,h=>by
  unfold nZ at h
  split at h
  ·rename_i hi
   rcases List.mem_append.mp h with h0 | h0
   ·obtain ⟨k,e1,e2,e3⟩:=xO ks i m h0
    exact ⟨k,e1,by omega,e3⟩
   ·exact ⟨i,List.mem_singleton.mp h0,by omega,hi⟩
  ·obtain ⟨k,e1,e2,e3⟩:=xO ks i m h
   exact ⟨k,e1,by omega,e3⟩
theorem w1Q (ks:List Str) {i:Nat} (hi:ks[i]?=some ("mark":Str)):∀ n:Nat,(nZ ks (i + 1 + n)).idxOf (i:Int)=(nZ ks i).length
 | 0=>by
  show (if ks[i]?=some ("mark":Str) then nZ ks i++[(i:Int)] else nZ ks i).idxOf (i:Int)=_
  have nm:(i:Int)∉nZ ks i:=fun h=>by have:=(pY ks i _ h).2; omega
  rw [if_pos hi,List.idxOf_append,if_neg nm,List.idxOf_cons_self]
  omega
 | n + 1=>by
  have ih:=w1Q ks hi n
  have hm:(i:Int)∈nZ ks (i + 1 + n):=tU ks (i + 1 + n) i (by omega) hi
  show (if ks[i + 1 + n]?=some ("mark":Str) then nZ ks (i + 1 + n)++[((i + 1 + n:Nat):Int)] else nZ ks (i + 1 + n)).idxOf (i:Int)=_
  split
  ·rw [List.idxOf_append,if_pos hm]; exact ih
  ·exact ih
theorem f3X {α:Type} {l:List α} (h:l.length=4):∃ a b c d,l=[a,b,c,d]:=by
 match l,h with
 | [a,b,c,d],_=>exact ⟨a,b,c,d,rfl⟩
theorem g7Z {ds:List Int} (sd:SmD ds) {a:Nat} (h:a + 4<=ds.length):∃ f0 f1 f2 f3:Int,pV (ds.map V.int) (some ((a:Nat):Int)) (some ((a + 4:Nat):Int))=[.int f0,.int f1,.int f2,.int f3]/\0<=f1/\0<=f2/\f2 < 10007/\0<=f3/\f3 < 10007:=by
 have hl:((ds.drop a).take 4).length=4:=by rw [List.length_take,List.length_drop]; omega
 obtain ⟨f0,f1,f2,f3,e⟩:=f3X hl
 have mem:∀ x∈[f0,f1,f2,f3],0<=x/\x < 10007:=fun x hx=>sd x (List.mem_of_mem_drop (List.mem_of_mem_take (by rw [e]; exact hx)))
 have h1:=mem f1 (by simp)
 have h2:=mem f2 (by simp)
 have h3:=mem f3 (by simp)
 refine ⟨f0,f1,f2,f3,?_,h1.1,h2.1,h2.2,h3.1,h3.2⟩
 unfold pV
 rw [HT.sIx_nat,HT.sIx_nat,List.length_map,Nat.min_eq_left (by omega),Nat.min_eq_left (by omega),show a + 4 - a=4 by omega,<-List.map_drop,<-List.map_take,e]
 rfl
section
theorem vJ:yQ ["d","boxes","kinds","k","spots","rows","kind"] ["d"] (gQ dY):=(by wtm_at "f")
theorem r8Q {ks:List Str} {z:Str} (h:ks.count ("mark":Str)<=3) (hz:z = "mark"->ks.count ("mark":Str) < 3):(ks++[z]).count ("mark":Str)<=3:=by
 rw [List.count_append,List.count_singleton]
 by_cases e:z = "mark"
 ·have:=hz e
  split <;> omega
 ·have:(z == ("mark":Str))=false:=by simpa using e
  rw [this]
  simpa using h
theorem g0Z (h:Has K mg "_law_program" dY ["d"]) (B:Blt mg) (cB:Cal P w K mg base 1 "_law_boxes" ["d"] spBoxesD) (cS:Cal P w K mg base 3 "_law_statement" ["kind","four","boxes","spots","k","turn"] spStatement):Cal P w K mg base 4 "_law_program" ["d"] spProgram:=by
 refine h.cal vJ (fun vs H Q E h=>?_) (fun f cdv A outer s H vs Q E hr h=>?_)
 ·obtain ⟨_,_,rfl,_⟩:=h
  rfl
 obtain ⟨pd,ds,rfl,hD,dl,sd,q⟩:=h
 have hr3:sZ 3 _:=hr
 have hr1:sZ 1 _:=hr.mono (by decide)
 refine ⟨_,(@bQ _ _ _ _ _ (@qQ _ _ 1 _ _ _ _ vJ.nd rfl (Or.inl rfl) (wQ cB hr1 rfl (@aQ _ _ _ _ _ (pv 0) eQ rfl)) rfl (Or.inl rfl)) (@bQ _ _ _ _ _ (@qQ _ _ 2 _ _ _ _ vJ.nd rfl (Or.inr rfl) (@jX _ _ _ _ eQ) rfl (Or.inl rfl)) (@bQ _ _ _ _ _ (@uZ _ _ _ _ _ _ _ _ PassesOwn.never rfl (@qJ _ _ _ _ _ _ rfl B.range (@aQ _ _ _ _ _ (@lQ _ _ _ _ _ _ _ _ gZ (@mQ _ _ _ _ _ _ _ zQ (pv 0) cQ (fun _ _=>rfl)) cQ) eQ rfl) rfl) (uQ (i:=3) vJ.nd rfl (Or.inl rfl)) (@bQ _ _ _ _ _ (@qQ _ _ 6 _ _ _ _ vJ.nd rfl (Or.inl rfl) (@mQ _ _ _ _ _ _ _ zQ (@jX _ _ _ _ (@aQ _ _ _ _ _ tQ (@aQ _ _ _ _ _ tQ (@aQ _ _ _ _ _ tQ (@aQ _ _ _ _ _ tQ (@aQ _ _ _ _ _ tQ (@aQ _ _ _ _ _ tQ (@aQ _ _ _ _ _ tQ (@aQ _ _ _ _ _ tQ eQ rfl) rfl) rfl) rfl) rfl) rfl) rfl) rfl)) (@lQ _ _ _ _ _ _ _ _ gZ (@mQ _ _ _ _ _ _ _ zQ (pv 0) (@lQ _ _ _ _ _ _ _ _ hZ cQ (@lQ _ _ _ _ _ _ _ _ aJ cQ (pv 3))) (fun _ _=>rfl)) cQ) (fun _ _=>rfl)) rfl (Or.inl rfl)) (@bQ _ _ _ _ _ (@cZ _ _ _ _ _ _ _ _ (@PW.pt _ _ _ (@x5Q _ _ _ _ _ _ _ (@rQ _ _ _ _ _ _ _ _ aZ (pv 6) tQ (nQ _)) (@a2Q _ _ _ _ (@rQ _ _ _ _ _ _ _ _ aZ (iV PySem.F.plainAttrs_list PySem.F.slot_list_count PySem.F.type_list_count t4Z (pv 2) (@aQ _ _ _ _ _ tQ eQ rfl)) cQ (nQ _))))) (@fQ _ _ _ (@qQ _ _ 6 _ _ _ _ vJ.nd rfl (Or.inl rfl) tQ rfl (Or.inl rfl))) sQ) (@fQ _ _ _ (@lX _ _ _ _ (iV PySem.F.plainAttrs_list PySem.F.slot_list_append PySem.F.type_list_append iX (pv 2) (@aQ _ _ _ _ _ (pv 6) eQ rfl)) rfl)))) (by intro _; rfl)) (@bQ _ _ _ _ _ (@cZ _ _ _ _ _ _ _ _ (@rQ _ _ _ _ _ _ _ _ aZ (@lQ _ _ _ _ _ _ _ _ gZ (@mQ _ _ _ _ _ _ _ zQ (pv 0) cQ (fun _ _=>rfl)) cQ) cQ (nQ _)) (@fQ _ _ _ (@lX _ _ _ _ (iV PySem.F.plainAttrs_list PySem.F.slot_list_append PySem.F.type_list_append iX (pv 2) (@aQ _ _ _ _ _ tQ eQ rfl)) rfl)) sQ) (@bQ _ _ _ _ _ (y9Z (i:=4) (gQ dY) ["d","boxes","kinds","k","spots","rows","kind"] (N:=["k","kinds"]) (ix:=[none,some 2]) rfl vJ.nd rfl (Or.inl rfl) (by wtm_at "g") (qJ rfl B.range (aQ (bZ dZ rfl B.len pX (aQ (pv 2) eQ)) eQ)) (fun _ _ _ _=>uQ (i:=0) (show (["k","kinds"]:List Str).Nodup by decide +kernel) rfl (Or.inl rfl)) (fun _ _ _ _=>(e2Q (rQ aZ (mQ (ixl K) (pv 1) (pv 0) (fun _ _=>rfl)) tQ (nQ _)))) (fun _ _ _ _=>(pv 0))) (@bQ _ _ _ _ _ (@qQ _ _ 5 _ _ _ _ vJ.nd rfl (Or.inl rfl) (@jX _ _ _ _ eQ) rfl (Or.inl rfl)) (@bQ _ _ _ _ _ (@uZ _ _ _ _ _ _ _ _ PassesOwn.never rfl (@qJ _ _ _ _ _ _ rfl B.range (@aQ _ _ _ _ _ (@bZ _ _ _ _ _ _ _ _ _ dZ rfl B.len pX (@aQ _ _ _ _ _ (pv 2) eQ rfl) (by decide) (by decide) rfl rfl) eQ rfl) rfl) (uQ (i:=3) vJ.nd rfl (Or.inl rfl)) (@fQ _ _ _ (@lX _ _ _ _ (iV PySem.F.plainAttrs_list PySem.F.slot_list_append PySem.F.type_list_append iX (pv 5) (@aQ _ _ _ _ _ (wQ cS hr3 rfl (@aQ _ _ _ _ _ (@mQ _ _ _ _ _ _ _ zQ (pv 2) (pv 3) (fun _ _=>rfl)) (@aQ _ _ _ _ _ (@iU _ _ _ _ _ _ _ _ _ _ n0Z (pv 0) (yU (@lQ _ _ _ _ _ _ _ _ hZ cQ (@lQ _ _ _ _ _ _ _ _ aJ cQ (pv 3)))) (yU (@lQ _ _ _ _ _ _ _ _ hZ cQ (@lQ _ _ _ _ _ _ _ _ aJ cQ (pv 3))))) (@aQ _ _ _ _ _ (pv 1) (@aQ _ _ _ _ _ (pv 4) (@aQ _ _ _ _ _ (pv 3) (@aQ _ _ _ _ _ (@lQ _ _ _ _ _ _ _ _ nX (@mQ _ _ _ _ _ _ _ zQ (pv 0) cQ (fun _ _=>rfl)) cQ) eQ rfl) rfl) rfl) rfl) rfl) rfl)) eQ rfl)) rfl)) (by intro _; rfl)) (@fQ _ _ _ (@oQ _ _ _ _ (@iZ _ _ _ _ _ (@aQ _ _ _ _ _ (pv 1) (@aQ _ _ _ _ _ (pv 5) eQ rfl) rfl))))))))))),?_⟩
 refine ⟨_,rfl,pd,ds,rfl,hD,dl,sd,fun pb us bs H1 hpb s1 X1 l1 l3 ok v9 nmd b5=>?_⟩
 refine ⟨(by show 0<=sizeLine; decide),fun pk hk=>?_⟩
 have sk:=iQ.new hk (.lst [])
 have k2:upd H1 pk (.lst []) pk=some (.lst (([]:List Str).map V.str)):=dQ
 generalize upd H1 pk (.lst [])=H2 at *
 have dat:∀ {H':Hp},iQ H1 H'->∀ {i:Nat},i < 100->∃ x:Int,SqL K H' pd (ds.map V.int)/\atI (ds.map V.int) ((i:Nat):Int)=some (.int x)/\0<=x/\x < 10007:=fun s' i hi=>by
  obtain ⟨x,e1,_,e3,e4⟩:=d_at sd (i:=i) (by omega)
  exact ⟨x,SqL.of (s' _ _ (s1 _ _ hD)),e1,e3,e4⟩
 obtain ⟨x11,q11,a11,_,_⟩:=dat sk (i:=11) (by decide)
 have m9:=pZ (a:=x11) (n:=9) (by decide)
 refine ⟨_,rfl,pd,_,((11:Nat):Int),_,rfl,rfl,q11,a11,_,_,rfl,rfl,(by decide:(0:Int) < 9),_,rfl,by omega,by omega,?_⟩
 refine oW (lo:=0) (n:=(x11 % 9).toNat) (fun i σ H'=>∃ (ks:List Str) (c3 c6:Option V),σ=[some (.ref pd),some (.ref pb),some (.ref pk),c3,none,none,c6]/\ks.length=i/\ks.count ("mark":Str)<=3/\(∀ z∈ks,z∈uU)/\H' pk=some (.lst (ks.map V.str))/\iQ H1 H')
  ⟨[],none,none,rfl,rfl,by decide +kernel,(fun z hz=>nomatch hz),k2,sk⟩ ?_ ?_
 ·rintro i σ H3 hi ⟨ks,c3,c6,rfl,kl,kc,km,k3,s3⟩
  have e0:(0 + (i:Int))=(i:Int):=by omega
  rw [e0]
  have i9:i < 9:=by omega
  refine ⟨(by show 8<=sizeLine; decide),fun pu hpu=>?_⟩
  have su:=iQ.new hpu (.lst [.str "mark",.str "ask",.str "put",.str "go",.str "if",.str "stop",.str "mark",.str "put"])
  have u4:upd H3 pu (.lst [.str "mark",.str "ask",.str "put",.str "go",.str "if",.str "stop",.str "mark",.str "put"]) pu=some (.lst [.str "mark",.str "ask",.str "put",.str "go",.str "if",.str "stop",.str "mark",.str "put"]):=dQ
  have k4:=su _ _ k3
  have s4:=s3.trans su
  generalize upd H3 pu (.lst [.str "mark",.str "ask",.str "put",.str "go",.str "if",.str "stop",.str "mark",.str "put"])=H4 at *
  obtain ⟨x,qx,ax,_,_⟩:=dat s4 (i:=13 + 4 * i) (by omega)
  have m8:=pZ (a:=x) (n:=8) (by decide)
  obtain ⟨z,hzm,hza⟩:=h9Z m8.1 m8.2
  refine ⟨_,rfl,_,rfl,_,_,rfl,rfl,cm (by decide) (by decide),_,_,rfl,rfl,pd,_,_,_,rfl,rfl,qx,ax,_,_,rfl,rfl,(by decide:(0:Int) < 8),pu,_,_,_,rfl,rfl,SqL.of u4,hza,gset ?_⟩
  refine i0Q (fun σ' H5=>H5=H4/\∃ z,σ'=[some (.ref pd),some (.ref pb),some (.ref pk),some (.int (i:Nat)),none,none,some (.str z)]/\z∈uU/\(z = "mark"->ks.count ("mark":Str) < 3)) ?_ ?_
  ·intro R' hR'
   refine ⟨_,rfl,rfl,_,rfl,sX (fun hm=>?_) (fun hm=>?_)⟩
   ·refine ⟨_,rfl,.inl ⟨rfl,_,SqL.of k4⟩,pk,ks,_,rfl,rfl,SqL.of k4,rfl,_,rfl,sX (fun _=>?_) (fun h=>?_)⟩
    ·exact hR' _ _ ⟨rfl,"ask",rfl,by simp [uU],fun e=>absurd e (by decide +kernel)⟩
    ·refine hR' _ _ ⟨rfl,z,rfl,hzm,fun _=>?_⟩
     have h':¬ ((ks.count ("mark":Str):Nat):Int)=3:=fun e=>h (by rw [e4Q,e])
     omega
   ·exact hR' _ _ ⟨rfl,z,rfl,hzm,fun e=>absurd (congrArg V.str e) hm⟩
  rintro σ5 H5 ⟨rfl,z,rfl,hzm,hz3⟩
  refine ⟨_,rfl,.inl ⟨rfl,_,SqL.of k4⟩,_,rfl,pk,_,_,rfl,rfl,k4,eZ (by rw [List.length_map]; omega),?_⟩
  refine ⟨ks++[z],_,_,rfl,by rw [List.length_append,kl]; rfl,r8Q kc hz3,fun y hy=>?_,by rw [dQ,List.map_append]; rfl,fun b o e=>by rw [kQ (jQ e hk)]; exact s4 _ _ e⟩
  rcases List.mem_append.mp hy with h1 | h1
  ·exact km y h1
  ·rw [List.mem_singleton.mp h1]; exact hzm
 rintro σ H3 ⟨ks0,c3,c6,rfl,kl0,kc0,km0,k3,s3⟩
 obtain ⟨x12,q12,a12,_,_⟩:=dat s3 (i:=12) (by decide)
 refine nxs (i0Q (fun σ' H4=>∃ ks:List Str,σ'=[some (.ref pd),some (.ref pb),some (.ref pk),c3,none,none,c6]/\ks.length<=9/\ks.count ("mark":Str)<=3/\(∀ z∈ks,z∈uU)/\H4 pk=some (.lst (ks.map V.str))/\iQ H1 H4) ?_ ?_)
 ·intro R' hR'
  refine ⟨_,rfl,pd,_,((12:Nat):Int),_,rfl,rfl,q12,a12,_,_,rfl,rfl,(by decide:(0:Int) < 2),rfl,_,rfl,sX (fun _=>?_) (fun _=>?_)⟩
  ·refine ⟨_,rfl,.inl ⟨rfl,_,SqL.of k3⟩,pk,_,_,rfl,rfl,k3,eZ (by rw [List.length_map]; omega),hR' _ _ ⟨ks0++[("go":Str)],rfl,by rw [List.length_append]; show ks0.length + 1<=9; omega,r8Q kc0 (fun e=>absurd e (by decide +kernel)),fun y hy=>?_,by rw [dQ,List.map_append]; rfl,fun b o e=>by rw [kQ (jQ e hk)]; exact s3 _ _ e⟩⟩
   rcases List.mem_append.mp hy with h1 | h1
   ·exact km0 y h1
   ·rw [List.mem_singleton.mp h1]; simp [uU]
  ·exact hR' _ _ ⟨ks0,rfl,by omega,kc0,km0,k3,s3⟩
 rintro σ4 H4 ⟨ks,rfl,kl,kc,km,k4,s4⟩
 clear kl0 kc0 km0 k3
 refine ⟨_,rfl,pk,_,rfl,.inl (SqL.of k4),_,rfl,by rw [List.length_map]; omega,by rw [List.length_map]; omega,fun pm hm=>?_⟩
 refine b3Q (lo:=0) (n:=((((ks.map V.str).length:Nat):Int)).toNat) (fun i ys σ H2=>∃ c0,σ=[c0,some (.ref pk)]/\ys=(nZ ks i).map V.int/\H2 pm=some (.lst ys)/\iQ H4 H2) ⟨none,rfl,rfl,dQ,iQ.new hm _⟩ ?_ ?_
 ·rintro i ys σ H2 hi ⟨c0,rfl,rfl,m2,s2⟩
  rw [List.length_map] at hi
  have hi':i < ks.length:=by omega
  have e0:(0 + (i:Int))=(i:Int):=by omega
  rw [e0]
  have ha:atI (ks.map V.str) ((i:Nat):Int)=some (.str ks[i]):=oX (by rw [List.getElem?_map,List.getElem?_eq_getElem hi']; rfl)
  have hz:ks[i]?=some ks[i]:=List.getElem?_eq_getElem hi'
  refine ⟨_,rfl,_,rfl,pk,_,_,_,rfl,rfl,SqL.of (s2 _ _ k4),ha,rfl,_,rfl,sX (fun hm'=>?_) (fun hm'=>?_)⟩
  ·have ez:ks[i] = "mark":=by injection hm'
   have em:nZ ks (i + 1)=nZ ks i++[(i:Int)]:=by
    show (if ks[i]?=some ("mark":Str) then _ else _)=_
    rw [if_pos (by rw [hz,ez])]
   have lm:=sU ks i (by omega)
   have:(ks.take i).count ("mark":Str)<=i:=Nat.le_trans List.count_le_length (List.length_take_le _ _)
   refine ⟨_,rfl,m2,eZ (by rw [List.length_map]; omega),_,rfl,?_,dQ,fun b o e=>?_⟩
   ·rw [em,List.map_append]
    rfl
   ·rw [kQ (jQ e hm)]
    exact s2 _ _ e
  ·have em:nZ ks (i + 1)=nZ ks i:=by
    show (if ks[i]?=some ("mark":Str) then _ else _)=_
    rw [if_neg (fun e=>hm' (by rw [hz] at e; rw [Option.some.inj e]))]
   exact ⟨_,rfl,by rw [em],m2,s2⟩
 rintro ys σ H5 ⟨c0,rfl,rfl,m5,s5⟩
 have en:((((ks.map V.str).length:Nat):Int)).toNat=ks.length:=by rw [List.length_map]; omega
 rw [en] at m5
 have s15:=s4.trans s5
 have k5:=s5 _ _ k4
 have sl3:(nZ ks ks.length).length<=3:=by rw [sU ks _ (Nat.le_refl _),List.take_length]; exact kc
 have spo:∀ n∈nZ ks ks.length,0<=n/\n < 1000:=fun n hn=>by have:=pY ks _ n hn; omega
 refine ⟨(by show 0<=sizeLine; decide),fun pw hw=>?_⟩
 have sw:=iQ.new hw (.lst [])
 have w6:upd H5 pw (.lst []) pw=some (.lst []):=dQ
 have k6:=sw _ _ k5
 have m6:=sw _ _ m5
 have s16:=s15.trans sw
 have nkw:pk≠pw:=fun z=>by rw [<-z,k5] at hw; cases hw
 have nmw:pm≠pw:=fun z=>by rw [<-z,m5] at hw; cases hw
 have w1:H1 pw=none:=iQ.free s15 hw
 generalize upd H5 pw (.lst [])=H6 at *
 obtain ⟨x10,_,a10,_,_⟩:=dat sk (i:=10) (by decide)
 refine ⟨_,rfl,pk,_,rfl,.inl (SqL.of k6),_,rfl,by rw [List.length_map]; omega,by rw [List.length_map]; omega,?_⟩
 refine oW (lo:=0) (n:=((((ks.map V.str).length:Nat):Int)).toNat) (fun i σ H'=>∃ (ur:List V) (rs:List Row) (c3:Option V),σ=[some (.ref pd),some (.ref pb),some (.ref pk),c3,some (.ref pm),some (.ref pw),c6]/\H' pw=some (.lst ur)/\tX (lW H') ur rs/\rs.length=i/\(∀ r∈rs,r.Ok bs/\r.In (nZ ks ks.length))/\(∀ k:Nat,k < i->ks[k]?=some ("mark":Str)->∃ y,rs[k]?=some (.mark y))/\mks rs=((List.range (nZ ks i).length).map fun (j:Nat)=>mk4 (((j:Int) + x10 / 4) % 4))/\H' pk=some (.lst (ks.map V.str))/\H' pm=some (.lst ((nZ ks ks.length).map V.int))/\iQ H1 H')
  ⟨[],[],_,rfl,w6,⟨rfl,fun i x y h=>nomatch h⟩,rfl,(fun r hr=>nomatch hr),(fun k hk=>by omega),rfl,k6,m6,s16⟩ ?_ ?_
 ·rintro i σ H7 hi ⟨ur,rs,c3',rfl,w7,A7,rl,ro,rm,rk,k7,m7,s7⟩
  rw [en] at hi
  have e0:(0 + (i:Int))=(i:Int):=by omega
  rw [e0]
  have ha:atI (ks.map V.str) ((i:Nat):Int)=some (.str ks[i]):=oX (by rw [List.getElem?_map,List.getElem?_eq_getElem hi]; rfl)
  have hz:ks[i]?=some ks[i]:=List.getElem?_eq_getElem hi
  have hzm:=km _ (List.getElem_mem hi)
  obtain ⟨f0,f1,f2,f3,ec,fo⟩:=g7Z sd (a:=13 + 4 * i) (by omega)
  have ul:=A7.1
  have qd:SqL K H7 pd (ds.map V.int):=SqL.of (s7 _ _ (s1 _ _ hD))
  refine ⟨_,rfl,.inl ⟨rfl,_,SqL.of w7⟩,_,rfl,_,rfl,pk,_,_,_,rfl,rfl,SqL.of k7,ha,_,rfl,_,rfl,_,_,rfl,rfl,cm (by decide) (by decide),_,_,rfl,rfl,_,rfl,_,rfl,_,_,rfl,rfl,cm (by decide) (by decide),_,_,rfl,rfl,_,rfl,pd,_,rfl,qd,fun p4 hp4=>?_⟩
  have e4:pV (ds.map V.int) (some ((13:Int) + 4 * (i:Int))) (some ((17:Int) + 4 * (i:Int)))=[.int f0,.int f1,.int f2,.int f3]:=by
   have h1:(13:Int) + 4 * (i:Int)=((13 + 4 * i:Nat):Int):=by omega
   have h2:(17:Int) + 4 * (i:Int)=((13 + 4 * i + 4:Nat):Int):=by omega
   rw [h1,h2]
   exact ec
  have s4':=iQ.new hp4 (.lst (pV (ds.map V.int) (some ((13:Int) + 4 * (i:Int))) (some ((17:Int) + 4 * (i:Int)))))
  have h4:upd H7 p4 (.lst (pV (ds.map V.int) (some ((13:Int) + 4 * (i:Int))) (some ((17:Int) + 4 * (i:Int))))) p4=some (.lst [.int f0,.int f1,.int f2,.int f3]):=by rw [dQ,e4]
  have w8:=s4' _ _ w7
  have A8:=A7.mono fun _ _ z=>lW.same z s4'
  have k8:=s4' _ _ k7
  have m8:=s4' _ _ m7
  have s8:=s7.trans s4'
  show o1Q _ _ _ (upd H7 p4 (.lst (pV (ds.map V.int) (some ((13:Int) + 4 * (i:Int))) (some ((17:Int) + 4 * (i:Int)))))) _
  generalize upd H7 p4 (.lst (pV (ds.map V.int) (some ((13:Int) + 4 * (i:Int))) (some ((17:Int) + 4 * (i:Int)))))=H8 at *
  refine ⟨_,rfl,_,rfl,_,rfl,_,rfl,pd,_,((10:Nat):Int),_,rfl,rfl,SqL.of (s8 _ _ (s1 _ _ hD)),a10,_,_,rfl,rfl,⟨by decide,by decide⟩,ks[i],p4,pb,pm,i,x10 / 4,f0,f1,f2,f3,us,bs,nZ ks ks.length,rfl,hzm,h4,fo,X1.same s8,l1,by omega,m8,by omega,spo,fun e=>tU ks _ i hi (by rw [hz,e]),fun v row H9 s9 R9 okr inr hmk hnm=>?_⟩
  have w9:=s9 _ _ w8
  have tup:∀ {r:Row} {u:V},lW H9 u r->lW (upd H9 pw (.lst (ur++[v]))) u r:=fun z=>z.tups fun c xs e=>by rw [kQ (fun z=>by rw [z,w9] at e; cases e)]; exact e
  refine ⟨pw,_,_,rfl,rfl,w9,eZ (by omega),?_⟩
  refine ⟨ur++[v],rs++[row],_,rfl,dQ,pJ ((A8.mono fun _ _ z=>lW.same z s9).mono fun _ _ z=>tup z) ⟨rfl,fun m x y hx hy=>?_⟩,by rw [List.length_append,rl]; rfl,fun r hr'=>?_,fun k hk' hkm=>?_,?_,by rw [kQ nkw]; exact s9 _ _ k8,by rw [kQ nmw]; exact s9 _ _ m8,fun b o e=>by rw [kQ (jQ e w1)]; exact s9 _ _ (s8 _ _ e)⟩
  ·match m,hx,hy with
   | 0,rfl,rfl=>exact tup R9
  ·rcases List.mem_append.mp hr' with h1 | h1
   ·exact ro r h1
   ·rw [List.mem_singleton.mp h1]; exact ⟨okr,inr⟩
  ·rcases Nat.lt_or_ge k i with h1 | h1
   ·obtain ⟨y,hy⟩:=rm k h1 hkm
    exact ⟨y,by rw [List.getElem?_append_left (by omega)]; exact hy⟩
   ·have ek:k=i:=by omega
    subst ek
    rw [hz] at hkm
    exact ⟨_,by rw [List.getElem?_append_right (by omega),rl,Nat.sub_self,hmk (Option.some.inj hkm)]; rfl⟩
  ·have em:mks (rs++[row])=mks rs++mks [row]:=by unfold mks; rw [List.filterMap_append]
   rw [em,rk]
   by_cases ez:ks[i] = "mark"
   ·have e1:nZ ks (i + 1)=nZ ks i++[(i:Int)]:=by
     show (if ks[i]?=some ("mark":Str) then _ else _)=_
     rw [if_pos (by rw [hz,ez])]
    have e2:=w1Q ks (i:=i) (by rw [hz,ez]) (ks.length - (i + 1))
    rw [show i + 1 + (ks.length - (i + 1))=ks.length by omega] at e2
    rw [hmk ez,e2,e1,List.length_append,List.length_singleton,List.range_succ,List.map_append]
    rfl
   ·have e1:nZ ks (i + 1)=nZ ks i:=by
     show (if ks[i]?=some ("mark":Str) then _ else _)=_
     rw [if_neg (fun e=>ez (by rw [hz] at e; exact Option.some.inj e))]
    have e2:mks [row]=[]:=by unfold mks; rw [List.filterMap_cons,hnm ez]; rfl
    rw [e1,e2,List.append_nil]
 rintro σ H7 ⟨ur,rs,c3',rfl,w7,A7,rl,ro,rm,rk,k7,m7,s7⟩
 rw [en] at rl rm rk
 refine ⟨_,rfl,_,rfl,(by show 2<=sizeLine; decide),fun pp hpp=>?_⟩
 have sp:=iQ.new hpp (.tup [.ref pb,.ref pw])
 have hlen:(mks rs).length<=3:=by rw [rk,List.length_map,List.length_range]; exact sl3
 refine q pp pb pw us ur bs rs _ (iQ.free (s1.trans s7) hpp) ((s1.trans s7).trans sp) ⟨dQ,(X1.same s7).same sp,ok,sp _ _ w7,A7.mono fun _ _ z=>lW.same z sp⟩ ⟨by omega,by omega,nmd,by omega,fun r hr'=>(ro r hr').1,fun r hr'=>?_⟩ l1 l3 v9 (by omega) hlen (by rw [rk]; exact r3Z _ (by omega)) b5
 have aim:∀ t:Nat,(t:Int)∈nZ ks ks.length->∃ z,rs[t]?=some (.mark z):=fun t ht=>by
  obtain ⟨k,e1,e2,e3⟩:=xO ks _ _ ht
  have:t=k:=by omega
  rw [this]
  exact rm k e2 e3
 have:=(ro r hr').2
 cases r with
 | go t=>exact aim t this
 | iff lt a b t=>exact aim t this
 | mark z=>trivial
 | ask i=>trivial
 | stop=>trivial
 | put i t=>trivial
end
theorem n9Z {d D:Addr} {o:Obj} {kvs:List (Key × V)} {g:TG} {tt:TT} {te:TE} {σ0:St} {H0:Hp} {Q:VK} (Pv:Nat->List V->St->Hp->Prop) (h0:Pv 0 [] σ0 H0) (hl:∀ i ys σ H,i<=kvs.length->Pv i ys σ H->H d=some (.frz o (.dK kvs)))
  (hs:∀ i kv ys σ H,kvs[i]?=some kv->Pv i ys σ H->g (kV kv.1) σ H fun σ3 H3=>tt σ3 H3 fun b H4=>if b=true then te σ3 H4 fun y H5=>H5 D=some (.lst ys)/\ys.length < sizeLine/\Pv (i + 1) (ys++[y]) σ3 (upd H5 D (.lst (ys++[y]))) else Pv (i + 1) ys σ3 H4)
  (hd:∀ ys σ H,Pv kvs.length ys σ H->Q (.ref D) H) :
  LcW (Itd d o kvs) D g tt te Q σ0 H0:=by
 refine ⟨fun i m ys σ H=>m=kvs.length - i/\i<=kvs.length/\Pv i ys σ H,⟨kvs.length,by simp,Nat.zero_le _,h0⟩,?_⟩
 rintro i m ys σ H ⟨rfl,hi,p⟩
 have q:=hl i ys σ H hi p
 by_cases hlt:i < kvs.length
 ·refine .inr ⟨⟨q,hlt⟩,fun ys' σ' H'=>Pv (i + 1) ys' σ' H',fun ys' σ' H' p'=>⟨kvs.length - (i + 1),by omega,rfl,hlt,p'⟩,fun x H' y=>?_⟩
  obtain ⟨e,kv,hkv,rfl⟩:=y
  subst e
  exact hs i kv ys σ _ hkv p
 ·have e:i=kvs.length:=by omega
  subst e
  exact .inl ⟨⟨q,Nat.le_refl _⟩,hd ys σ H p⟩
theorem n1Z {X:Cx} (K:W.Frag) (h:X.K=K:=by rfl):yV X (.builtin "len") (fun xs H Q=>∃ p ys,xs=[.ref p]/\(SqL K H p ys\/SqT K H p ys)/\Q (.int ys.length) H):=by
 subst h
 exact dZ
theorem wO.butT {P:Program} {w:World} {bs:List Box} {rs:List Row} {H H':Hp} {d t:Addr} {kvs:List (NKey × V)} {kv:List (Key × V)} (h:wO P w bs rs H d kvs) (ht:H t=some (.dK kv)) (b:But t H H'):wO P w bs rs H' d kvs:=by
 have dt:d≠t:=fun z=>by
  obtain ⟨φ,e⟩:=h.at_.there
  rw [z,ht] at e
  cases e
 have tp:∀ q xs,H q=some (.tup xs)->H' q=some (.tup xs):=fun q xs hq=>b _ _ (fun z=>by rw [z,ht] at hq; cases hq) hq
 refine ⟨h.at_.keep (fun o e=>b _ _ dt e) tp,fun k hk=>?_⟩
 obtain ⟨z,v,l,rl,e1,e2,e3,e4,e5,e6⟩:=h.each k hk
 exact ⟨z,v,l,rl,e1,e2,e3,e4,b _ _ (fun x=>by rw [x,ht] at e5; cases e5) e5,e6.tups tp⟩
def g3X (K:W.Frag):TE:=tCB (fun xs H Q=>∃ p ns,xs=[V.ref p]/\SqL K H p (List.map V.int ns)/\Q (V.int ns.sum) H) (o1Q (fun σ H Q=>∃ d kvs,H d=some (HO.dK kvs)/\tLc [none,some 2] (b0X (tVar 2)) (fX 0) tTrue (tCB (fun xs H Q=>∃ p ys,xs=[V.ref p]/\(SqL K H p ys\/SqT K H p ys)/\Q (V.int ys.length) H) (o1Q (x9Z (tVar 1) (tVar 0)) tNil)) σ H fun v H'=>∃ o,H' d=some (HO.frz o (HO.dK kvs))/\Q v (upd H' d (HO.dK kvs))) tNil)
theorem s8Q {K:W.Frag} {G H6:Hp} {t:Addr} {kv6:List (Key × V)} {es6:List Ent} {a b:Option V} {r:St} {Q:VK} (L6:dW G H6 t kv6 es6) (l60:es6.length<=60) (q:∀ H',iQ H6 H'->Q (.int (sumL es6:Nat)) H'):g3X K (a :: b :: some (.ref t) :: r) H6 Q:=by
 refine ⟨t,kv6,L6.at_,_,rfl,t,kv6,rfl,L6.at_,fun o D hD=>?_⟩
 have kle:=congrArg List.length L6.ks
 rw [List.length_map,List.length_map] at kle
 have hfr:upd H6 t (.frz o (.dK kv6)) t=some (.frz o (.dK kv6)):=dQ
 refine n9Z (d:=t) (o:=o) (kvs:=kv6) (fun i ys σ H'=>(∃ c0:Option V,σ=[c0,some (.ref t)])/\ys=((es6.take i).map fun e=>V.int (e.2.length:Nat))/\H' D=some (.lst ys)/\H' t=some (.frz o (.dK kv6))/\But t H6 H')
  ⟨⟨none,rfl⟩,rfl,dQ,?_,?_⟩ (fun i ys σ H' _ hh=>hh.2.2.2.1) ?_ ?_
 ·rw [kQ (jQ hfr hD)]; exact hfr
 ·intro c u n e
  have hc:upd H6 t (.frz o (.dK kv6)) c=some u:=by rw [kQ n]; exact e
  rw [kQ (jQ hc hD)]; exact hc
 ·rintro i kvi ys σ H7 hi ⟨⟨c0,rfl⟩,rfl,D7,t7,b7⟩
  have hk:(kv6.map (·.1))[i]?=some kvi.1:=by rw [List.getElem?_map,hi]; rfl
  rw [L6.ks,List.getElem?_map] at hk
  obtain ⟨e,he,ek⟩:=Option.map_eq_some_iff.mp hk
  rw [<-ek]
  obtain ⟨l,v1,_,hl,_⟩:=L6.each e (List.mem_of_getElem? he)
  have il:=(List.getElem?_eq_some_iff.mp he).1
  have hl7:=b7 _ _ (fun z=>by rw [z,L6.at_] at hl; cases hl) hl
  have tD:t≠D:=fun z=>by rw [z,D7] at t7; cases t7
  refine d3Q ⟨_,rfl,_,rfl,t,_,rfl,.inl ⟨kv6,Sum.inr e.1,.inr ⟨o,t7⟩,rfl,v1.symm⟩,l,_,rfl,.inl (SqL.of hl7),D7,eZ (by rw [List.length_map,List.length_take]; omega),⟨_,rfl⟩,?_,dQ,?_,?_⟩
  ·rw [List.take_add_one,he,List.map_append,List.length_map]; rfl
  ·rw [kQ tD]; exact t7
  ·intro c u n e'
   have hcD:c≠D:=fun z=>by
    have h0:upd H6 t (.frz o (.dK kv6)) c=some u:=by rw [kQ n]; exact e'
    rw [z,hD] at h0
    cases h0
   rw [kQ hcD]; exact b7 c u n e'
 rintro ys σ H7 ⟨_,rfl,D7,t7,b7⟩
 have sumE:∀ es:List Ent,((es.map fun e=>(e.2.length:Int)).sum)=(sumL es:Int):=fun es=>by
  induction es with
  | nil=>rfl
  | cons e r ih =>
   unfold sumL at ih ⊢
   rw [List.map_cons,List.sum_cons,List.map_cons,List.sum_cons,ih]
   omega
 have H7t:upd H7 t (.dK kv6) t=some (.dK kv6):=dQ
 have tD:t≠D:=fun z=>by rw [z,D7] at t7; cases t7
 have s67:iQ H6 (upd H7 t (.dK kv6)):=fun c u e=>by
  by_cases hct:c=t
  ·rw [hct] at e ⊢
   rw [L6.at_] at e
   rw [<-e]; exact dQ
  ·rw [kQ hct]; exact b7 c u hct e
 have D8:upd H7 t (.dK kv6) D=some (.lst ((es6.map fun e=>(e.2.length:Int)).map V.int)):=by
  rw [kQ tD.symm,D7,kle,List.take_length,List.map_map]; rfl
 refine ⟨o,t7,?_⟩
 generalize upd H7 t (.dK kv6)=H8 at *
 refine ⟨D,_,rfl,SqL.of D8,?_⟩
 rw [sumE]
 exact q _ s67
theorem dW.but {G H H':Hp} {t d:Addr} {kv:List (Key × V)} {es:List Ent} {u:HO} (h:dW G H t kv es) (b:But d H H') (hd:H d=some u) (n1:∀ k,u ≠ .dK k) (n2:∀ k,u ≠ .lst k) (n3:∀ k,u ≠ .tup k):dW G H' t kv es:=by
 have go:∀ {c:Addr} {o:HO},H c=some o->o≠u->H' c=some o:=fun hc ho=>b _ _ (fun z=>by rw [z,hd] at hc; exact ho (Option.some.inj hc).symm) hc
 refine ⟨go h.at_ (n1 _).symm,h.ks,fun e he=>?_⟩
 obtain ⟨l,h1,hg,h2,h3⟩:=h.each e he
 exact ⟨l,h1,hg,go h2 (n2 _).symm,fun x hx=>let ⟨p,ep,hp⟩:=h3 x hx; ⟨p,ep,go hp (n3 _).symm⟩⟩
theorem uJ.fst {es' es:List Ent} (h:uJ es' es):es'.map Prod.fst=es.map Prod.fst:=by
 refine List.ext_getElem? fun i=>?_
 rw [List.getElem?_map,List.getElem?_map]
 by_cases hi:i < es.length
 ·obtain ⟨x,y,hx,hy,e1,_⟩:=h.get (i:=i) hi
  rw [hx,hy]
  exact congrArg some e1
 ·have:=h.1
  rw [List.getElem?_eq_none (by omega),List.getElem?_eq_none (by omega)]
theorem uJ.trans {a b c:List Ent} (h:uJ a b) (h':uJ b c):uJ a c:=by
 refine ⟨h.1.trans h'.1,fun i x z hx hz=>?_⟩
 obtain ⟨y,hy,e1,f,e2⟩:=h.at hx
 obtain ⟨e3,g,e4⟩:=h'.2 i y z hy hz
 refine ⟨e1.trans e3,fun s=>g s && f s,?_⟩
 rw [e2,e4,List.filter_filter]
 exact List.filter_congr fun x _=>Bool.and_comm _ _
def spLeft:Sp:=fun vs H Q _=>∃ (pp pb pr pq:Addr) (us ur:List V) (bs:List Box) (rs:List Row) (G:Hp) (as:List (Addr × Addr)) (es:List Ent),vs=[.ref pp,.ref pq]/\bX H pp pb pr us ur bs rs/\xW bs rs/\(mks rs).Nodup/\(mks rs).length * vol bs < 64/\kZ G H pq as es/\es.map Prod.fst=mks rs/\(∀ e∈es,e.2.length<=100/\∀ x∈e.2,x.2.In bs.length/\ROk x.2) /\
 ∀ (p:Addr) (as':List (Addr × Addr)) (H':Hp),iQ H H'->kZ H H' p as' (gr bs rs es)->Q (.ref p) H'
section
theorem bU:yQ ["program","paper","left","ways","before","mark","some","values"] ["program","paper"] (gQ m0Q):=(by wtm_at "f")
theorem o9Z (h:Has K mg "_law_left" m0Q ["program","paper"]) (B:Blt mg) (cF:Cal P w K mg base 21 "first_of" ["program"] spFirstOf) (cW:Cal P w K mg base 22 "_law_ways" ["program"] (z6Z P w)) (cA:Cal P w K mg base 2 "_law_all_so" ["some","values"] spAllSo) (cK:Cal P w K mg base 2 "_law_keep" ["left","coming"] spKeep):Cal P w K mg base 23 "_law_left" ["program","paper"] spLeft:=by
 refine h.cal bU (fun vs H Q E h=>?_) (fun f cdv A outer s H vs Q E hr h=>?_)
 ·obtain ⟨_,_,_,_,_,_,_,_,_,_,_,rfl,_⟩:=h
  rfl
 obtain ⟨pp,pb,pr,pq,us,ur,bs,rs,G,as,es,rfl,PG,O,nd,h64,PA,en,inn,q⟩:=h
 have hu:=uY hr
 have hu3:(A.deeper _).units + 2 < cLine:=Nat.lt_of_le_of_lt (Nat.add_le_add_left (by decide:2<=64) _) hr.units
 have hr22:sZ 22 _:=hr
 have hr21:sZ 21 _:=hr.mono (by decide)
 have hr2:sZ 2 _:=hr.mono (by decide)
 refine ⟨_,(bQ (qQ (i:=2) bU.nd rfl (Or.inr rfl) d0Q)
  (bQ (uZ PassesOwn.never rfl (xZ (pv 1)) (jK rfl (jZ (uQ (i:=5) bU.nd rfl (Or.inl rfl)) (jZ (uQ (i:=6) bU.nd rfl (Or.inl rfl)) dJ))) (fQ (lK hu (pv 2) (pv 5) (tV mK rfl B.list n0Q (aQ (pv 6) eQ)) rfl)))
  (bQ (qQ (i:=3) bU.nd rfl (Or.inl rfl) (wQ cW hr22 rfl (aQ (pv 0) eQ)))
  (bQ (lX (wQ cK hr2 rfl (aQ (pv 2) (aQ (wQ cF hr21 rfl (aQ (pv 0) eQ)) eQ))))
  (bQ (qQ (i:=4) bU.nd rfl (Or.inl rfl) (o2Q qO cQ))
  (bQ (a0Q PassesOwn.never (rQ b0Q (pv 4) (bZ (q7Q rfl) rfl B.sum p5Z (aQ (t0Z (nY (gQ m0Q) ["program","paper","left","ways","before","mark","some","values"] (N:=["mark","left"]) (ix:=[none,some 2]) rfl (by wtm_at "g") (s0Z (pv 2)) (fun _ _ _ _=>uQ (i:=0) (show (["mark","left"]:List Str).Nodup by decide +kernel) rfl (Or.inl rfl)) (fun _ _ _ _=>bW) (fun _ _ _ _=>(bZ (n1Z K) rfl B.len pX (aQ (aV hu (pv 1) (pv 0) (fun _ _=>rfl)) eQ))))) eQ)) (nQ _)) (bQ (qQ (i:=4) bU.nd rfl (Or.inl rfl) (bZ (q7Q rfl) rfl B.sum p5Z (aQ (t0Z (nY (gQ m0Q) ["program","paper","left","ways","before","mark","some","values"] (N:=["mark","left"]) (ix:=[none,some 2]) rfl (by wtm_at "g") (s0Z (pv 2)) (fun _ _ _ _=>uQ (i:=0) (show (["mark","left"]:List Str).Nodup by decide +kernel) rfl (Or.inl rfl)) (fun _ _ _ _=>bW) (fun _ _ _ _=>(bZ (n1Z K) rfl B.len pX (aQ (aV hu (pv 1) (pv 0) (fun _ _=>rfl)) eQ))))) eQ)))
  (fQ (k5Z (uZ PassesOwn.never rfl (j5Z (pv 3)) (jK rfl (jZ (uQ (i:=5) bU.nd rfl (Or.inl rfl)) (jZ (uQ (i:=7) bU.nd rfl (Or.inl rfl)) dJ))) (fQ (cZ (lJ (wQ cA hr2 rfl (aQ (aV hu (pv 2) (pv 5) (fun _ _=>rfl)) (aQ (pv 7) eQ)))) (fQ (lX (wQ cK hr2 rfl (aQ (pv 2) (aQ (g6Q hu3 (pv 3) (iZ (aQ (pv 5) (aQ (pv 7) eQ))) (fun _ _=>rfl)) eQ))))) sQ)))))))
  (fQ (oQ (nY (gQ m0Q) ["program","paper","left","ways","before","mark","some","values"] (N:=["mark","some","left"]) (ix:=[none,none,some 2]) rfl (by wtm_at "g") (xZ (pv 1)) (fun _ _ _ _=>pgt K 2 rfl (jZ (uQ (i:=0) (show (["mark","some","left"]:List Str).Nodup by decide +kernel) rfl (Or.inl rfl)) (jZ (uQ (i:=1) (show (["mark","some","left"]:List Str).Nodup by decide +kernel) rfl (Or.inl rfl)) dJ))) (fun _ _ _ _=>bW) (fun _ _ _ _=>(iZ (aQ (pv 0) (aQ (aV hu (pv 2) (pv 0) (fun _ _=>rfl)) eQ))))))))))))),?_⟩
 intro t ht
 have s1:=iQ.new ht (.dK [])
 have t1:upd H t (.dK []) t=some (.dK []):=dQ
 show fX 2 (V.ref t) _ (upd H t (.dK [])) _
 generalize upd H t (.dK [])=H1 at *
 have hal:=PA.each.1
 have nde:(es.map Prod.fst).Nodup:=by rw [en]; exact nd
 have el60:es.length<=60:=by
  have:=congrArg List.length en
  rw [List.length_map] at this
  have:=wK rs
  have:=O.l60
  omega
 refine ⟨_,rfl,pq,rfl,⟨_,SqL.of (s1 _ _ PA.at_)⟩,kX (K:=K) (a:=pq) (xs:=as.map fun a=>V.ref a.1) (fun i σ H'=>(∃ c5 c6:Option V,σ=[some (.ref pp),some (.ref pq),some (.ref t),none,none,c5,c6,none])/\iQ H H'/\∃ kv,dW H H' t kv (es.take i))
  ⟨⟨none,none,rfl⟩,s1,[],t1,rfl,fun e he=>nomatch he⟩ (fun i σ H' _ hh=>SqL.of (hh.2.1 _ _ PA.at_)) ?_ ?_⟩
 ·rintro i y σ H2 hi ⟨⟨c5,c6,rfl⟩,s2,kv,L2⟩
  rw [List.getElem?_map] at hi
  obtain ⟨ae,ha,rfl⟩:=Option.map_eq_some_iff.mp hi
  obtain ⟨e,he,_,_,_,E0⟩:=PA.each.at ha
  have il:i < es.length:=(List.getElem?_eq_some_iff.mp he).1
  refine ⟨ae.1,_,rfl,SqT.of (s2 _ _ E0.t),rfl,_,_,rfl,_,_,rfl,rfl,?_⟩
  refine ⟨_,rfl,ae.2,_,rfl,.inl (SqL.of (s2 _ _ E0.l)),fun l hl=>?_⟩
  have Hl:H l=none:=iQ.free s2 hl
  have sl:=iQ.new hl (.lst (e.2.map Prod.fst))
  have l3:upd H2 l (.lst (e.2.map Prod.fst)) l=some (.lst (e.2.map Prod.fst)):=dQ
  have L3:=L2.same sl
  have s3:=s2.trans sl
  generalize upd H2 l (.lst (e.2.map Prod.fst))=H3 at *
  have hne:(Sum.inr e.1:Key)∉kv.map (·.1):=by
   rw [L3.ks]
   intro h
   obtain ⟨e',he',z⟩:=List.mem_map.mp h
   obtain ⟨j,hj⟩:=List.mem_iff_getElem?.mp he'
   have jl:=(List.getElem?_eq_some_iff.mp hj).1
   rw [List.length_take] at jl
   rw [List.getElem?_take_of_lt (by omega)] at hj
   have h1:(es.map Prod.fst)[j]?=some e.1:=by rw [List.getElem?_map,hj]; show some e'.1=_; rw [Sum.inr.inj z]
   have h2:(es.map Prod.fst)[i]?=some e.1:=by rw [List.getElem?_map,he]; rfl
   have:=(List.getElem?_inj (List.getElem?_eq_some_iff.mp h1).1 nde).mp (h1.trans h2.symm)
   omega
  have hnone:=q0Q hne
  have kl:=congrArg List.length L3.ks
  rw [List.length_map,List.length_map,List.length_take] at kl
  refine ⟨_,rfl,_,rfl,t,_,rfl,DPut.k (k:=Sum.inr e.1) L3.at_ (by rw [sizeLine_eq]; omega),?_⟩
  have nl:∀ {b:Addr} {u:HO},H3 b=some u->(∀ k,u ≠ .dK k)->upd H3 t (.dK (dX kv (Sum.inr e.1) (.ref l))) b=some u:=fun hb hk=>by
   rw [kQ (fun x=>by rw [x,L3.at_] at hb; exact hk _ (Option.some.inj hb).symm)]; exact hb
  refine ⟨⟨_,_,rfl⟩,fun c o h=>by rw [kQ (jQ h ht)]; exact s3 _ _ h,dX kv (Sum.inr e.1) (.ref l),dQ,?_,fun e' he'=>?_⟩
  ·rw [tY _ hnone,List.map_append,L3.ks,List.take_add_one,he,List.map_append]; rfl
  ·rw [List.take_add_one,he] at he'
   rcases List.mem_append.mp he' with h | h
   ·obtain ⟨l',w1,wg,w2,w3⟩:=L3.each e' h
    have hk:(Sum.inr e'.1:Key)∈kv.map (·.1):=by rw [L3.ks]; exact List.mem_map.mpr ⟨e',h,rfl⟩
    refine ⟨l',by rw [bJ,if_neg (fun z=>hne (by rw [<-z]; exact hk))]; exact w1,wg,nl w2 (fun k h=>nomatch h),fun x hx=>?_⟩
    obtain ⟨p,ep,hp⟩:=w3 x hx
    exact ⟨p,ep,nl hp (fun k h=>nomatch h)⟩
   ·have ee:e'=e:=by simpa using h
    subst ee
    refine ⟨l,by rw [bJ,if_pos rfl],Hl,nl l3 (fun k h=>nomatch h),fun x hx=>?_⟩
    obtain ⟨p,ep,hp⟩:=(E0.s x hx).same s3
    exact ⟨p,ep,nl hp (fun k h=>nomatch h)⟩
 rintro σ H2 ⟨⟨c5,c6,rfl⟩,s2,kv2,L2⟩
 rw [List.length_map,hal,List.take_length] at L2
 refine ⟨_,rfl,pp,pb,pr,us,ur,bs,rs,rfl,PG.same s2,O,nd,h64,fun d kvs H3 hd s3 W3 wh=>?_⟩
 have s03:=s2.trans s3
 have L3:=L2.same s3
 show fX 3 (V.ref d) _ H3 _
 refine ⟨_,rfl,_,rfl,pp,pb,pr,us,ur,bs,rs,rfl,PG.same s03,O,h64,fun lf rf H4 hlf s4 e4 M4=>?_⟩
 have L4:=L3.same s4
 have s04:=s03.trans s4
 refine ⟨H,t,lf,bs,kv2,es,rf,_,rfl,s04,ht,L4,nde,el60,inn,e4,M4,PG.ok,fun z v c=>?_,fun H5 kv5 b5 L5=>?_⟩
 ·have w:=u5Q O.aims c (d4Q PG.ok)
  exact ⟨by rw [en]; exact w.2,w.1⟩
 have t4:H4 t=some (.dK kv2):=L4.at_
 have W4:wO P w bs rs H4 d kvs:=⟨W3.at_.same s4,fun k hk=>(W3.each k hk).same s4⟩
 have W5:=W4.butT t4 b5
 have s05:iQ H H5:=fun c o e=>b5 c o (jQ e ht) (s04 c o e)
 have F5:uJ (kpt (Cf bs rs (0,bs.map Box.fst)) es) es:=h4Q (uJ.refl es)
 have G5:LeS (gr bs rs es) (kpt (Cf bs rs (0,bs.map Box.fst)) es):=by
  have hr:=zK.mpr (pU bs rs es)
  exact d7Z (z0Q bs rs es).le ((w6Q PG.ok O nd (by rw [e0Z]; exact en)).mp hr).1
 have S5:∀ z v,Cf bs rs (0,bs.map Box.fst) z v->So (kpt (Cf bs rs (0,bs.map Box.fst)) es) z v:=fun z v c=>c7Z c
 refine ⟨_,rfl,fun m σ H'=>∃ (b:Int) (c5 c6 c7:Option V) (kv:List (Key × V)) (es':List Ent),σ=[some (.ref pp),some (.ref pq),some (.ref t),some (.ref d),some (.int b),c5,c6,c7]/\iQ H H'/\wO P w bs rs H' d kvs/\dW H H' t kv es'/\uJ es' es/\LeS (gr bs rs es) es'/\(∀ z v,Cf bs rs (0,bs.map Box.fst) z v->So es' z v)/\((b = -1/\m=sumL es + 1)\/(b=(m:Int)/\sumL es'<=m))/\(b=(sumL es':Int)->isR bs rs es'=true),
  ⟨sumL es + 1,-1,_,_,_,kv5,_,rfl,s05,W5,L5,F5,G5,S5,.inl ⟨rfl,rfl⟩,fun h=>by omega⟩,?_⟩
 rintro m σ H6 ⟨b,c5,c6,c7,kv6,es6,rfl,s6,W6,L6,F6,G6,S6,hm,hR6⟩
 refine ⟨_,rfl,s8Q (K:=K) L6 (by have:=F6.1; omega) fun H8 s67=>?_⟩
 by_cases hb:b=(sumL es6:Int)
 ·refine ⟨rfl,_,rfl,d5Q (by rw [hb]) ?_⟩
  have hgr:=l9Z F6 G6 (hR6 hb)
  have s08:=s6.trans s67
  have L8:=L6.same s67
  have hl6:=F6.1
  refine ⟨_,rfl,pq,rfl,⟨_,SqL.of (s08 _ _ PA.at_)⟩,fun D' hD'=>?_⟩
  refine qV (K:=K) (a:=pq) (xs:=as.map fun a=>V.ref a.1) (fun i ys σ H'=>(∃ c0 c1:Option V,σ=[c0,c1,some (.ref t)])/\∃ as':List (Addr × Addr),ys=as'.map (fun a=>V.ref a.1)/\H' D'=some (.lst ys)/\iQ H8 H'/\tX (fun (a:Addr × Addr) e=>H a.1=none/\H a.2=none/\a.2≠D'/\jJ H' a.1 a.2 e) as' (es6.take i))
   ⟨⟨none,none,rfl⟩,[],rfl,dQ,iQ.new hD' _,⟨rfl,fun i x y h=>nomatch h⟩⟩ (fun i ys σ H' _ hh=>by obtain ⟨_,_,_,_,s',_⟩:=hh; exact SqL.of (s' _ _ (s08 _ _ PA.at_))) ?_ ?_
  ·rintro i x ys σ H9 hi ⟨⟨c0,c1,rfl⟩,as9,rfl,D9,s9,A9⟩
   rw [List.getElem?_map] at hi
   obtain ⟨ae,ha,rfl⟩:=Option.map_eq_some_iff.mp hi
   obtain ⟨e,he,_,_,_,E0⟩:=PA.each.at ha
   have il:i < es.length:=(List.getElem?_eq_some_iff.mp he).1
   obtain ⟨e6,e0,he6,he0,n6,_⟩:=F6.get (i:=i) il
   rw [he] at he0
   cases he0
   obtain ⟨l,v1,gl,hl,hs⟩:=L8.each e6 (List.mem_of_getElem? he6)
   have s09:=s08.trans s9
   have h9l:=A9.1
   rw [List.length_take] at h9l
   refine ⟨ae.1,_,rfl,SqT.of (s09 _ _ E0.t),rfl,_,_,rfl,_,_,rfl,rfl,?_⟩
   refine ⟨_,rfl,_,rfl,_,rfl,t,.ref l,rfl,?_,(by show 2<=sizeLine; decide),fun pt hpt=>?_⟩
   ·have:=aY.k (k:=Sum.inr e.1) (s9 _ _ L8.at_)
    rw [n6] at v1
    rw [v1] at this
    exact this
   have st:=iQ.new hpt (.tup [.str e.1,.ref l])
   have hptH:H pt=none:=iQ.free s09 hpt
   have lD:l≠D':=fun z=>by rw [z,hD'] at hl; cases hl
   have E4:jJ (upd H9 pt (.tup [.str e.1,.ref l])) pt l e6:=⟨by rw [n6]; exact dQ,st _ _ (s9 _ _ hl),fun x hx=>((hs x hx).same s9).same st⟩
   have A4:tX (fun (a:Addr × Addr) e'=>H a.1=none/\H a.2=none/\a.2≠D'/\jJ (upd H9 pt (.tup [.str e.1,.ref l])) a.1 a.2 e') as9 (es6.take i):=A9.mono fun _ _ h=>⟨h.1,h.2.1,h.2.2.1,h.2.2.2.same st⟩
   have hD4:=st _ _ D9
   have s94:=s9.trans st
   generalize upd H9 pt (.tup [.str e.1,.ref l])=Ha at *
   refine ⟨hD4,eZ (by rw [List.length_map]; omega),⟨_,_,rfl⟩,as9++[(pt,l)],by rw [List.map_append]; rfl,dQ,fun c o e=>by rw [kQ (jQ e hD')]; exact s94 _ _ e,?_⟩
   rw [List.take_add_one,he6]
   refine pJ (A4.mono fun _ _ h=>⟨h.1,h.2.1,h.2.2.1,h.2.2.2.put hD4 h.2.2.1⟩) ⟨rfl,fun k x y hx hy=>?_⟩
   match k,hx,hy with
   | 0,rfl,rfl=>exact ⟨hptH,gl,lD,E4.put hD4 lD⟩
  ·rintro ys σ H9 ⟨_,as9,rfl,D9,s9,A9⟩
   rw [List.length_map,hal,<-hl6,List.take_length,hgr] at A9
   exact q D' as9 H9 (s08.trans s9) ⟨iQ.free s08 hD',D9,A9⟩
 ·refine ⟨rfl,_,rfl,rV (by rw [decide_eq_false (fun z=>hb (V.int.inj z))]; rfl) ?_⟩
  have s08:=s6.trans s67
  have L8:=L6.same s67
  have W8:wO P w bs rs H8 d kvs:=⟨W6.at_.same s67,fun k hk=>(W6.each k hk).same s67⟩
  have ps6:=wU F6
  refine ⟨fun σ H'=>∃ (c5 c6 c7:Option V) (kv:List (Key × V)) (es':List Ent),σ=[some (.ref pp),some (.ref pq),some (.ref t),some (.ref d),some (.int (sumL es6:Nat)),c5,c6,c7]/\iQ H H'/\wO P w bs rs H' d kvs/\dW H H' t kv es'/\uJ es' es6/\LeS (gr bs rs es) es'/\(es'=es6->isR bs rs es6=true),?_,?_⟩
  ·rintro σ' H' ⟨c5,c6,c7,kv,es',rfl,s',W',L',F',G',R'⟩
   have ps':=wU F'
   refine ⟨sumL es6,by rcases hm with ⟨_,h⟩ | ⟨h1,h2⟩ <;> omega,_,c5,c6,c7,kv,es',rfl,s',W',L',F'.trans F6,G',fun z v c=>m1Z F'.le (S6 z v c),.inr ⟨rfl,ps'.1⟩,fun h=>?_⟩
   have e:=ps'.2 (by omega)
   rw [e]
   exact R' e
  refine s8Q (K:=K) L8 (by have:=F6.1; omega) fun H9 s89=>?_
  show fX 4 _ _ H9 _
  have s09:=s08.trans s89
  have L9:=L8.same s89
  have W9:wO P w bs rs H9 d kvs:=⟨W8.at_.same s89,fun k hk=>(W8.each k hk).same s89⟩
  have nde6:(es6.map Prod.fst).Nodup:=by rw [F6.fst]; exact nde
  have en6:es6.map Prod.fst=mks rs:=by rw [F6.fst]; exact en
  have rg:Rgt bs rs (gr bs rs es):=(w6Q PG.ok O nd (by rw [e0Z]; exact en)).mp (zK.mpr (pU bs rs es))
  obtain ⟨xs,rel,hxd,hsm,hnd,hz⟩:=id W9.at_
  have Hd:H d=none:=iQ.free s2 hd
  have td:d≠t:=fun z=>by rw [z,L9.at_] at hxd; cases hxd
  refine ⟨d,_,hxd,_,rfl,d,xs,rfl,hxd,hsm,fun o=>?_⟩
  have bf:But d H9 (upd H9 d (.frz o (PkO P w d xs))):=But.upd _
  have ef:upd H9 d (.frz o (PkO P w d xs)) d=some (.frz o (PkO P w d xs)):=dQ
  have nod:∀ {b:Addr} {u:HO},H9 b=some u->(∀ φ,u ≠ .ext φ)->b≠d:=fun hb ho x=>by
   rw [x,hxd] at hb
   exact ho _ (Option.some.inj hb).symm
  have sf:iQ H (upd H9 d (.frz o (PkO P w d xs))):=fun c u e=>bf c u (jQ e Hd) (s09 _ _ e)
  have tf:∀ b ys,H9 b=some (.tup ys)->upd H9 d (.frz o (PkO P w d xs)) b=some (.tup ys):=fun b ys h=>bf _ _ (nod h (fun _ z=>nomatch z)) h
  have Lf:dW H (upd H9 d (.frz o (PkO P w d xs))) t kv6 es6:=L9.but bf hxd (fun _ z=>nomatch z) (fun _ z=>nomatch z) (fun _ z=>nomatch z)
  have rel6:=NT.keeps rel tf
  have ways6:∀ kv∈kvs,Way bs rs (upd H9 d (.frz o (PkO P w d xs))) kv:=fun kv h=>(W9.each kv h).but hxd bf
  generalize hHf:upd H9 d (.frz o (PkO P w d xs))=Hf at *
  have xk:∀ y∈xs,wY Hf y.1 y.2.1/\∃ x,vZ kvs y.1=some x/\(y.1,x)∈kvs:=by
   intro y hy
   have hm:y.1∈kvs.map (·.1):=by rw [<-rel.keys]; exact List.mem_map.mpr ⟨y,hy,rfl⟩
   have h1:(vZ kvs y.1).isSome=true:=by
    rw [<-xJ]
    obtain ⟨kv,hkv,e⟩:=List.mem_map.mp hm
    exact List.any_eq_true.mpr ⟨kv,hkv,decide_eq_true e⟩
   obtain ⟨x,hx⟩:=Option.isSome_iff_exists.mp h1
   refine ⟨?_,x,hx,t6Q hx⟩
   have go:∀ {kvs:List (NKey × V)} {xs:List (NKey × Addr × Value)},NT Hf kvs xs->∀ x∈xs,wY Hf x.1 x.2.1:=by
    intro kvs xs r
    induction r with
    | nil=>exact fun x hx=>nomatch hx
    | @cons p q ps qs h t ih =>
     intro x hx
     rcases List.mem_cons.mp hx with rfl | hx
     ·exact h.2.1
     ·exact ih x hx
   exact go rel6 y hy
  refine p2Z (P:=P) (w:=w) (d:=d) (o:=o) (xs:=xs) (fun i σ H'=>(∃ c5 c6 c7:Option V,σ=[some (.ref pp),some (.ref pq),some (.ref t),some (.ref d),some (.int (sumL es6:Nat)),c5,c6,c7])/\But t Hf H'/\∃ kv es',dW H H' t kv es'/\uJ es' es6/\LeS (gr bs rs es) es'/\(es'=es6->∀ y∈xs.take i,∀ z v,y.1=(Sum.inr z,tk v)->So es6 z v->∀ z' v',CnP bs rs z v z' v'->So es6 z' v'))
   ⟨⟨_,_,_,rfl⟩,(by rw [<-hHf]; exact But.refl _ _),kv6,es6,(by rw [<-hHf] at Lf; exact Lf),uJ.refl _,G6,fun _ y hy=>nomatch hy⟩ (fun i σ H' _ hh=>hh.2.1 _ _ td ef) ?_ ?_
  ·rintro i y σ Ha hi ⟨⟨c5,c6,c7,rfl⟩,ba,kva,esa,La,Fa,Ga,fa⟩
   have hym:=List.mem_of_getElem? hi
   obtain ⟨pk,x,hx,hxm⟩:=xk y hym
   obtain ⟨z,v,l,rl,e1,hzm,hvm,e4,e5,M5⟩:=ways6 _ hxm
   have e1:y.1=(Sum.inr z,tk v):=e1
   have e4:x = .ref l:=e4
   rw [e1] at pk hx
   subst e4
   obtain ⟨pz,p1,p2⟩:=h6Z pk
   have W:=mU PG.ok hvm
   have tup:∀ {b:Addr} {ys:List V},Hf b=some (.tup ys)->Ha b=some (.tup ys):=fun h=>ba _ _ (fun z=>by rw [z,Lf.at_] at h; cases h) h
   refine ⟨y.2.1,_,rfl,SqT.of (tup p1),rfl,_,_,rfl,_,_,rfl,rfl,?_⟩
   have nda:(esa.map Prod.fst).Nodup:=by rw [Fa.fst]; exact nde6
   have inna:∀ e∈esa,e.2.length<=100/\∀ x∈e.2,x.2.In bs.length/\ROk x.2:=fun e he=>by
    obtain ⟨e0,he0,_,hl0,h0⟩:=(Fa.trans F6).mem he
    exact ⟨Nat.le_trans hl0 (inn e0 he0).1,fun x hx=>(inn e0 he0).2 x (h0 x hx)⟩
   obtain ⟨e,he,ez⟩:∃ e∈esa,e.1=z:=by
    rw [<-en6,<-Fa.fst] at hzm
    exact List.mem_map.mp hzm
   obtain ⟨la,v1,_,hla,hs⟩:=La.each e he
   rw [ez] at v1
   have hvl:=W.1
   refine ⟨_,rfl,_,rfl,t,.ref la,rfl,?_,_,rfl,la,pz,e.2,v,rfl,hla,fun x hx=>⟨hs x hx,by rw [<-hvl]; exact ((inna e he).2 x hx).1,((inna e he).2 x hx).2⟩,tup p2,W.sm PG.ok,_,rfl,?_⟩
   ·have:=aY.k (k:=Sum.inr z) La.at_
    rw [v1] at this
    exact this
   have g4:(e.2.all fun x=>x.2.so v)=true ↔ So esa z v:=by
    rw [<-ez]
    exact (b7Z nda he).symm
   have last:∀ {y':NKey × Addr × Value},y'∈xs.take (i + 1)->∀ {z':Str} {v':List Int},y'.1=(Sum.inr z',tk v')->y'∈xs.take i\/(z'=z/\v'=v):=fun {y'} hy' {z' v'} e'=>by
    rw [List.take_add_one,hi] at hy'
    rcases List.mem_append.mp hy' with h | h
    ·exact .inl h
    ·have er:y'=y:=by simpa using h
     rw [er,e1] at e'
     obtain ⟨h1,h2⟩:=Prod.mk.inj e'
     exact .inr ⟨(Sum.inr.inj h1).symm,(v3Q h2).symm⟩
   cases ea:(e.2.all fun x=>x.2.so v) with
   | false =>
    refine kY ⟨⟨_,_,_,rfl⟩,ba,kva,esa,La,Fa,Ga,fun ee y' hy' z' v' e' hs=>?_⟩
    rcases last hy' e' with h | ⟨rfl,rfl⟩
    ·exact fa ee y' h z' v' e' hs
    ·rw [g4.mpr (by rw [ee]; exact hs)] at ea
     cases ea
   | true =>
    have so1:=g4.mp ea
    refine iteT ⟨_,rfl,_,rfl,_,rfl,_,rfl,(by show 2<=sizeLine; decide),fun p hp=>?_⟩
    have sp:=iQ.new hp (.tup [.str z,.ref pz])
    have Pp:gK (upd Ha p (.tup [.str z,.ref pz])) p z v:=⟨pz,dQ,sp _ _ (tup p2)⟩
    have Lb:=La.same sp
    have bb:But t Hf (upd Ha p (.tup [.str z,.ref pz])):=fun c o n h=>sp _ _ (ba c o n h)
    generalize upd Ha p (.tup [.str z,.ref pz])=Hb at *
    have tupb:∀ {b:Addr} {ys:List V},Hf b=some (.tup ys)->Hb b=some (.tup ys):=fun h=>bb _ _ (fun z=>by rw [z,Lf.at_] at h; cases h) h
    refine ⟨d,p,_,kvs,_,rfl,rfl,Pp.pk,⟨xs,NT.keeps rel6 fun b ys h=>tupb h,.inr ⟨o,bb _ _ td ef⟩,hsm,hnd,hz⟩,hx,?_⟩
    have el:Hb l=some (.lst (rl.map V.ref)):=bb _ _ (fun z=>by rw [z,Lf.at_] at e5; cases e5) e5
    have sb:iQ H Hb:=fun c u e=>bb c u (jQ e ht) (sf c u e)
    refine ⟨H,t,l,bs,kva,esa,rl,CnP bs rs z v,rfl,sb,ht,Lb,nda,(by have:=Fa.1; have:=F6.1; omega),inna,el,M5.tups fun q ys h=>tupb h,PG.ok,fun z' v' c=>?_,fun Hc kvc bc Lc=>?_⟩
    ·have cw:=f4Q O.aims c W
     exact ⟨by rw [Fa.fst,en6]; exact cw.2,cw.1⟩
    refine ⟨⟨_,_,_,rfl⟩,fun c u n h=>bc c u n (bb c u n h),kvc,kpt (CnP bs rs z v) esa,Lc,h4Q Fa,d7Z Ga fun z' v' c=>rg.2 z hzm v hvm (m1Z Ga so1) z' v' c,fun ee y' hy' z' v' e' hs z3 v3 c=>?_⟩
    have eaa:esa=es6:=by
     have q1:=wU (h4Q (T:=CnP bs rs z v) (uJ.refl esa))
     have q2:=wU Fa
     rw [ee] at q1
     exact q2.2 (Nat.le_antisymm q2.1 q1.1)
    rcases last hy' e' with h | ⟨rfl,rfl⟩
    ·exact fa eaa y' h z' v' e' hs z3 v3 c
    ·rw [<-ee]
     exact c7Z c
  ·rintro σ Ha ⟨⟨c5,c6,c7,rfl⟩,ba,kva,esa,La,Fa,Ga,fa⟩
   have da:=ba _ _ td ef
   refine ⟨o,da,?_⟩
   have sa:iQ H Ha:=fun c u e=>ba c u (jQ e ht) (sf c u e)
   have bd:But t H9 (upd Ha d (.ext (h5Q P w d xs))):=fun c u n e=>by
    by_cases hc:c=d
    ·rw [hc] at e ⊢
     rw [hxd] at e
     rw [<-e]; exact dQ
    ·rw [kQ hc]
     refine ba c u n ?_
     rw [<-hHf,kQ hc]; exact e
   refine ⟨c5,c6,c7,kva,esa,rfl,fun c u e=>by rw [kQ (jQ e Hd)]; exact sa c u e,W9.butT L9.at_ bd,La.but (But.upd _) da (fun _ z=>nomatch z) (fun _ z=>nomatch z) (fun _ z=>nomatch z),Fa,Ga,fun ee=>?_⟩
   refine (w6Q PG.ok O nd en6).mpr ⟨S6,fun z hz v hv hs z' v' c=>?_⟩
   have h1:=wh z hz v hv
   unfold MtIn at h1
   obtain ⟨x,hx⟩:=Option.isSome_iff_exists.mp h1
   have hm:((Sum.inr z,tk v):NKey)∈xs.map (·.1):=by rw [rel.keys]; exact List.mem_map.mpr ⟨_,t6Q hx,rfl⟩
   obtain ⟨y,hy,ey⟩:=List.mem_map.mp hm
   exact fa ee y (by rw [List.take_length]; exact hy) z v ey hs z' v' c
end
def spKind:Sp:=fun vs H Q _=>∃ (p:Addr) (s:Say),vs=[.ref p]/\H p=some (.tup s.tup)/\∀ H',iQ H H'->Q (.bl true) H'
theorem h3X (s:Say):2<=s.figs.length:=by cases s <;> simp [Say.figs]
section
theorem h7Z:yQ ["saying","part"] ["saying"] (gQ j5Q):=(by wtm_at "f")
theorem p9Z (h:Has K mg "_law_kind" j5Q ["saying"]) (B:Blt mg):Cal P w K mg base 1 "_law_kind" ["saying"] spKind:=by
 refine h.cal h7Z (fun vs H Q E h=>?_) (fun f cdv A outer s H vs Q E hr h=>?_)
 ·obtain ⟨p,s,rfl,_⟩:=h
  rfl
 obtain ⟨p,s,rfl,hp,q⟩:=h
 refine ⟨_,(bQ (cZ (PW.pt (xV (nW (lJ (bZ wX rfl B.isinstance eX (aQ (pv 0) (aQ (oV (v:=.ty "tuple") rfl B.tuple h3Q rfl) eQ))))) (xV (rQ q4Q (bZ dZ rfl B.len pX (aQ (pv 0) eQ)) cQ (nQ _)) (mW (nW (lJ (bZ wX rfl B.isinstance eX (aQ (mQ pQ (pv 0) cQ (fun _ _=>rfl)) (aQ (oV (v:=.ty "str") rfl B.str o5Z rfl) eQ))))))))) (fQ (oQ jW)) sQ)
  (bQ (uZ PassesOwn.never rfl (p0X (iU g9Q (pv 0) (yU cQ) d2Q)) (uQ (i:=1) h7Z.nd rfl (Or.inl rfl)) (fQ (cZ (PW.pt (xV (nW (lJ (bZ wX rfl B.isinstance eX (aQ (pv 1) (aQ (oV (v:=.ty "int") rfl B.int s1X rfl) eQ))))) (mW (lJ (bZ wX rfl B.isinstance eX (aQ (pv 1) (aQ (oV (v:=.ty "bool") rfl B.bool u0Z rfl) eQ))))))) (fQ (oQ jW)) sQ)))
  (fQ (oQ jW)))),?_⟩
 have fl:=h3X s
 have hp2:=hp
 rw [s.tup_eq] at hp2
 refine ⟨_,rfl,_,_,_,_,rfl,.tup hp,jV K "tuple",_,rfl,kY ?_⟩
 refine ⟨_,rfl,p,_,rfl,.inr (SqT.of hp2),_,_,rfl,rfl,_,rfl,?_⟩
 refine nJ (decide_eq_false ?_) ?_
 ·rw [List.length_cons,List.length_map]
  omega
 refine ⟨_,rfl,p,_,_,_,rfl,rfl,SqT.of hp2,at0,_,_,_,_,rfl,.str _,jV K "str",_,rfl,kY ?_⟩
 have ncut:¬ (HT.sIx (V.str s.head :: s.figs.map V.int).length 0 (some (1:Int))=0/\HT.sIx (V.str s.head :: s.figs.map V.int).length (V.str s.head :: s.figs.map V.int).length (none:Option Int)=(V.str s.head :: s.figs.map V.int).length):=by
  rintro ⟨z,_⟩
  have:(if (1:Int) < 0 then ((1:Int) + ((V.str s.head :: s.figs.map V.int).length:Int)).toNat else Nat.min (1:Int).toNat (V.str s.head :: s.figs.map V.int).length)=0:=z
  rw [if_neg (by decide)] at this
  have e2:Nat.min (1:Int).toNat (V.str s.head :: s.figs.map V.int).length=1:=Nat.min_eq_left (by simp)
  omega
 refine ⟨_,rfl,_,rfl,p,_,rfl,SqT.of hp2,ncut,fun pc hpc=>?_⟩
 rw [l6Z]
 have e2:=iQ.new hpc (.tup (s.figs.map V.int))
 have c2:upd H pc (.tup (s.figs.map V.int)) pc=some (.tup (s.figs.map V.int)):=dQ
 generalize upd H pc (.tup (s.figs.map V.int))=H2 at *
 refine ⟨pc,rfl,⟨_,SqT.of c2⟩,o7Z (K:=K) (a:=pc) (xs:=s.figs.map V.int) (fun i σ H'=>(∃ c:Option V,σ=[some (.ref p),c])/\H'=H2)
  ⟨⟨none,rfl⟩,rfl⟩ (fun i σ H' _ ⟨_,e⟩=>by rw [e]; exact SqT.of c2) ?_ ?_⟩
 ·rintro i x σ H' hi ⟨⟨c,rfl⟩,rfl⟩
  obtain ⟨n,_,rfl⟩:=List.mem_map.mp (List.mem_of_getElem? hi)
  refine ⟨_,rfl,_,_,_,_,rfl,.int _,jV K "int",_,rfl,kY ?_⟩
  refine ⟨_,rfl,_,_,_,_,rfl,.int _,g1X K,_,rfl,kY ?_⟩
  exact ⟨⟨_,rfl⟩,rfl⟩
 ·rintro σ H' ⟨⟨c,rfl⟩,rfl⟩
  exact q H' e2
def spAlike:Sp:=fun vs H Q _=>∃ (p q:Addr) (as bs:List (Addr × Addr)) (es:List Ent) (G G':Hp),vs=[.ref p,.ref q]/\kZ G H p as es/\kZ G' H q bs es/\es.length<=60/\(∀ e∈es,e.2.length<=100)/\∀ H',iQ H H'->Q (.bl true) H'
theorem z6Q:yQ ["found","due","k","j"] ["found","due"] (gQ l1Q):=(by wtm_at "f")
theorem i7Z (h:Has K mg "_law_alike" l1Q ["found","due"]) (B:Blt mg) (cK:Cal P w K mg base 1 "_law_kind" ["saying"] spKind):Cal P w K mg base 2 "_law_alike" ["found","due"] spAlike:=by
 refine h.cal z6Q (fun vs H Q E h=>?_) (fun f cdv A outer s H vs Q E hr h=>?_)
 ·obtain ⟨_,_,_,_,_,_,_,rfl,_⟩:=h
  rfl
 obtain ⟨p,p',as,bs,es,G,G',rfl,A1,A2,l60,l100,q⟩:=h
 refine ⟨_,(bQ (cZ (PW.pt (xV (nW (lJ (bZ wX rfl B.isinstance eX (aQ (pv 0) (aQ (oV (v:=.ty "list") rfl B.list n0Q rfl) eQ))))) (mW (rQ b0Q (bZ dZ rfl B.len pX (aQ (pv 0) eQ)) (bZ dZ rfl B.len pX (aQ (pv 1) eQ)) (nQ _))))) (fQ (oQ jW)) sQ)
  (bQ (uZ PassesOwn.never rfl (qJ rfl B.range (aQ (bZ dZ rfl B.len pX (aQ (pv 1) eQ)) eQ)) (uQ (i:=2) z6Q.nd rfl (Or.inl rfl))
   (bQ (cZ (PW.pt (xV (nW (lJ (bZ wX rfl B.isinstance eX (aQ (mQ zQ (pv 0) (pv 2) (fun _ _=>rfl)) (aQ (oV (v:=.ty "tuple") rfl B.tuple h3Q rfl) eQ))))) (mW (rQ b0Q (bZ dZ rfl B.len pX (aQ (mQ zQ (pv 0) (pv 2) (fun _ _=>rfl)) eQ)) cQ (nQ _))))) (fQ (oQ jW)) sQ)
   (bQ (cZ (PW.pt (xV (nW (lJ (bZ wX rfl B.isinstance eX (aQ (mQ pQ (mQ zQ (pv 0) (pv 2) (fun _ _=>rfl)) cQ (fun _ _=>rfl)) (aQ (oV (v:=.ty "str") rfl B.str o5Z rfl) eQ))))) (mW (rQ b0Q (mQ pQ (mQ zQ (pv 0) (pv 2) (fun _ _=>rfl)) cQ (fun _ _=>rfl)) (mQ pQ (mQ zQ (pv 1) (pv 2) (fun _ _=>rfl)) cQ (fun _ _=>rfl)) (nQ _))))) (fQ (oQ jW)) sQ)
   (bQ (cZ (PW.pt (xV (nW (lJ (bZ wX rfl B.isinstance eX (aQ (mQ pQ (mQ zQ (pv 0) (pv 2) (fun _ _=>rfl)) cQ (fun _ _=>rfl)) (aQ (oV (v:=.ty "list") rfl B.list n0Q rfl) eQ))))) (mW (rQ b0Q (bZ dZ rfl B.len pX (aQ (mQ pQ (mQ zQ (pv 0) (pv 2) (fun _ _=>rfl)) cQ (fun _ _=>rfl)) eQ)) (bZ dZ rfl B.len pX (aQ (mQ pQ (mQ zQ (pv 1) (pv 2) (fun _ _=>rfl)) cQ (fun _ _=>rfl)) eQ)) (nQ _))))) (fQ (oQ jW)) sQ)
   (fQ (uZ PassesOwn.never rfl (qJ rfl B.range (aQ (bZ dZ rfl B.len pX (aQ (mQ pQ (mQ zQ (pv 1) (pv 2) (fun _ _=>rfl)) cQ (fun _ _=>rfl)) eQ)) eQ)) (uQ (i:=3) z6Q.nd rfl (Or.inl rfl))
    (fQ (cZ (PW.pt (xV (nW (lJ (wQ cK hr rfl (aQ (mQ zQ (mQ pQ (mQ zQ (pv 0) (pv 2) (fun _ _=>rfl)) cQ (fun _ _=>rfl)) (pv 3) (fun _ _=>rfl)) eQ)))) (mW (rQ (b5Z hr.units) (mQ zQ (mQ pQ (mQ zQ (pv 0) (pv 2) (fun _ _=>rfl)) cQ (fun _ _=>rfl)) (pv 3) (fun _ _=>rfl)) (mQ zQ (mQ pQ (mQ zQ (pv 1) (pv 2) (fun _ _=>rfl)) cQ (fun _ _=>rfl)) (pv 3) (fun _ _=>rfl)) (nQ _))))) (fQ (oQ jW)) sQ))))))))
  (fQ (oQ jW)))),?_⟩
 have hl1:=A1.each.1
 have hl2:=A2.each.1
 refine ⟨_,rfl,_,_,_,_,rfl,.lst A1.at_,jV K "list",_,rfl,kY ?_⟩
 refine ⟨_,rfl,p,_,rfl,.inl (SqL.of A1.at_),_,rfl,p',_,rfl,.inl (SqL.of A2.at_),rfl,_,rfl,?_⟩
 refine d5Q (by rw [List.length_map,List.length_map,hl1,hl2]) ?_
 refine ⟨_,rfl,p',_,rfl,.inl (SqL.of A2.at_),_,rfl,by omega,by rw [List.length_map]; omega,?_⟩
 rw [List.length_map]
 refine oW (lo:=0) (n:=bs.length) (fun i σ H'=>(∃ c2 c3:Option V,σ=[some (.ref p),some (.ref p'),c2,c3])/\iQ H H') ⟨⟨none,none,rfl⟩,iQ.refl _⟩ ?_ ?_
 ·rintro i σ H2 hi ⟨⟨c2,c3,rfl⟩,s2⟩
  have hie:i < es.length:=by omega
  obtain ⟨e,he⟩:∃ e,es[i]?=some e:=⟨_,List.getElem?_eq_getElem hie⟩
  obtain ⟨a,ha⟩:∃ a,as[i]?=some a:=⟨_,List.getElem?_eq_getElem (by omega)⟩
  obtain ⟨b,hb⟩:∃ b,bs[i]?=some b:=⟨_,List.getElem?_eq_getElem hi⟩
  have e100:=l100 e (List.mem_of_getElem? he)
  have E1:=(A1.each.2 i a e ha he).2.2.2
  have E2:=(A2.each.2 i b e hb he).2.2.2
  have i1:atI (as.map fun a=>V.ref a.1) (0 + (i:Int))=some (V.ref a.1):=by rw [Int.zero_add]; exact oX (by rw [List.getElem?_map,ha]; rfl)
  have i2:atI (bs.map fun a=>V.ref a.1) (0 + (i:Int))=some (V.ref b.1):=by rw [Int.zero_add]; exact oX (by rw [List.getElem?_map,hb]; rfl)
  refine ⟨_,rfl,_,rfl,p,_,_,_,rfl,rfl,SqL.of (s2 _ _ A1.at_),i1,_,_,_,_,rfl,.tup (s2 _ _ E1.t),jV K "tuple",_,rfl,kY ?_⟩
  refine ⟨_,rfl,_,rfl,p,_,_,_,rfl,rfl,SqL.of (s2 _ _ A1.at_),i1,a.1,_,rfl,.inr (SqT.of (s2 _ _ E1.t)),rfl,_,rfl,d5Q rfl ?_⟩
  refine ⟨_,rfl,_,rfl,p,_,_,_,rfl,rfl,SqL.of (s2 _ _ A1.at_),i1,a.1,_,((0:Nat):Int),_,rfl,rfl,SqT.of (s2 _ _ E1.t),rfl,_,_,_,_,rfl,.str _,jV K "str",_,rfl,kY ?_⟩
  refine ⟨_,rfl,_,rfl,p,_,_,_,rfl,rfl,SqL.of (s2 _ _ A1.at_),i1,a.1,_,((0:Nat):Int),_,rfl,rfl,SqT.of (s2 _ _ E1.t),rfl,_,rfl,_,rfl,p',_,_,_,rfl,rfl,SqL.of (s2 _ _ A2.at_),i2,b.1,_,((0:Nat):Int),_,rfl,rfl,SqT.of (s2 _ _ E2.t),rfl,rfl,_,rfl,d5Q rfl ?_⟩
  refine ⟨_,rfl,_,rfl,p,_,_,_,rfl,rfl,SqL.of (s2 _ _ A1.at_),i1,a.1,_,((1:Nat):Int),_,rfl,rfl,SqT.of (s2 _ _ E1.t),rfl,_,_,_,_,rfl,.lst (s2 _ _ E1.l),jV K "list",_,rfl,kY ?_⟩
  refine ⟨_,rfl,_,rfl,p,_,_,_,rfl,rfl,SqL.of (s2 _ _ A1.at_),i1,a.1,_,((1:Nat):Int),_,rfl,rfl,SqT.of (s2 _ _ E1.t),rfl,a.2,_,rfl,.inl (SqL.of (s2 _ _ E1.l)),_,rfl,_,rfl,p',_,_,_,rfl,rfl,SqL.of (s2 _ _ A2.at_),i2,b.1,_,((1:Nat):Int),_,rfl,rfl,SqT.of (s2 _ _ E2.t),rfl,b.2,_,rfl,.inl (SqL.of (s2 _ _ E2.l)),rfl,_,rfl,d5Q rfl ?_⟩
  refine ⟨_,rfl,_,rfl,p',_,_,_,rfl,rfl,SqL.of (s2 _ _ A2.at_),i2,b.1,_,((1:Nat):Int),_,rfl,rfl,SqT.of (s2 _ _ E2.t),rfl,b.2,_,rfl,.inl (SqL.of (s2 _ _ E2.l)),_,rfl,by omega,by rw [List.length_map]; omega,?_⟩
  rw [List.length_map]
  refine oW (lo:=0) (n:=e.2.length) (fun j σ H'=>(∃ c3:Option V,σ=[some (.ref p),some (.ref p'),some (.int (0 + (i:Int))),c3])/\iQ H H') ⟨⟨_,rfl⟩,s2⟩ ?_ ?_
  ·rintro j σ H3 hj ⟨⟨c3,rfl⟩,s3⟩
   obtain ⟨x,hx⟩:∃ x,e.2[j]?=some x:=⟨_,List.getElem?_eq_getElem hj⟩
   obtain ⟨ps,ep,hps⟩:=E1.s x (List.mem_of_getElem? hx)
   have ij:atI (e.2.map Prod.fst) (0 + (j:Int))=some (V.ref ps):=by rw [Int.zero_add]; exact oX (by rw [List.getElem?_map,hx,<-ep]; rfl)
   refine ⟨_,rfl,_,rfl,p,_,_,_,rfl,rfl,SqL.of (s3 _ _ A1.at_),i1,a.1,_,((1:Nat):Int),_,rfl,rfl,SqT.of (s3 _ _ E1.t),rfl,_,rfl,a.2,_,_,_,rfl,rfl,SqL.of (s3 _ _ E1.l),ij,ps,x.2,rfl,s3 _ _ hps,fun H4 s4=>⟨_,rfl,kY ?_⟩⟩
   have s04:=s3.trans s4
   refine ⟨_,rfl,_,rfl,p,_,_,_,rfl,rfl,SqL.of (s04 _ _ A1.at_),i1,a.1,_,((1:Nat):Int),_,rfl,rfl,SqT.of (s04 _ _ E1.t),rfl,_,rfl,a.2,_,_,_,rfl,rfl,SqL.of (s04 _ _ E1.l),ij,_,rfl,_,rfl,p',_,_,_,rfl,rfl,SqL.of (s04 _ _ A2.at_),i2,b.1,_,((1:Nat):Int),_,rfl,rfl,SqT.of (s04 _ _ E2.t),rfl,_,rfl,b.2,_,_,_,rfl,rfl,SqL.of (s04 _ _ E2.l),ij,1,ps,ps,by decide,rfl,rfl,.inl ⟨_,s04 _ _ hps⟩,Alk.rfl' 0 (.inr ⟨_,rfl⟩),_,rfl,kY ?_⟩
   exact ⟨⟨_,rfl⟩,s04⟩
  ·rintro σ H3 ⟨⟨c3,rfl⟩,s3⟩
   exact ⟨⟨_,_,rfl⟩,s3⟩
 ·rintro σ H2 ⟨⟨c2,c3,rfl⟩,s2⟩
  exact q H2 s2
end
theorem i3X {i:Nat} {v:V} {σ:St} {H:Hp} {t R:TS} {D:Ends} {rt:VK} {bk ct:St->Hp->Prop} (h:tSeq t R D (σ.set i (some v)) H):fX i v σ H (Ends.nx ⟨tSeq t R D,rt,bk,ct⟩):=h
def o1Z (K:W.Frag):Sp:=fun vs H Q _=>∃ (a:Addr) (ns:List Int),vs=[.ref a]/\SqL K H a (ns.map V.int)/\ns.length<=63/\∀ H',Q (.bl true) H'
theorem v5Q {G G' H:Hp} {p p':Addr} {as as':List (Addr × Addr)} {es:List Ent} (A:kZ G H p as es) (A':kZ G' H p' as' es) (l60:es.length<=60) (l100:∀ e∈es,e.2.length<=100):Alk H 5 (.ref p) (.ref p'):=by
 have h1:=A.each.1
 have h2:=A'.each.1
 refine q0Z A.at_ A'.at_ (by rw [List.length_map,List.length_map]; omega) (by rw [List.length_map]; omega) fun i x y hx hy=>?_
 rw [List.getElem?_map] at hx hy
 obtain ⟨a,ha,rfl⟩:=Option.map_eq_some_iff.mp hx
 obtain ⟨a',ha',rfl⟩:=Option.map_eq_some_iff.mp hy
 obtain ⟨e,he,_,_,_,E⟩:=A.each.at ha
 obtain ⟨e',he',_,_,_,E'⟩:=A'.each.at ha'
 rw [he] at he'
 cases he'
 have:=l100 e (List.mem_of_getElem? he)
 refine a5Z E.t E'.t (Alk.rfl' 2 (.inl rfl)) (z4Z 1 E.l E'.l (by rw [List.length_map]; omega) fun x hx=>?_)
 obtain ⟨y,hy,rfl⟩:=List.mem_map.mp hx
 obtain ⟨ps,ep,_⟩:=E.s y hy
 exact .inr ⟨ps,ep⟩
structure Pap (bs:List Box) (rs:List Row) (n:Nat) (es:List Ent):Prop where
 nm:es.map Prod.fst=mks rs
 e:∀ e∈es,e.2.length<=n/\∀ x∈e.2,x.2.In bs.length/\ROk x.2
theorem Pap.len {bs:List Box} {rs:List Row} {n:Nat} {es:List Ent} (h:Pap bs rs n es):es.length=(mks rs).length:=by
 have:=congrArg List.length h.nm
 rwa [List.length_map] at this
theorem Pap.asks {bs:List Box} {rs:List Row} {n:Nat} {es:List Ent} (h:Pap bs rs n es) (hn:n<=26) (m3:(mks rs).length<=3) (O:xW bs rs) (nd:(mks rs).Nodup) {H G:Hp} {pp pb pr p:Addr} {us ur:List V} {as:List (Addr × Addr)} (PG:bX H pp pb pr us ur bs rs) (A:kZ G H p as es):Asks H pp pb pr p us ur bs rs G as es:=by
 have hl:=h.len
 refine ⟨PG,O,nd,A,fun e he=>⟨by rw [<-h.nm]; exact List.mem_map.mpr ⟨e,he,rfl⟩,by have:=(h.e e he).1; omega,fun x hx=>((h.e e he).2 x hx).1⟩,by omega,?_⟩
 have h1:=p8Q (n:=n) fun e he=>(h.e e he).1
 have h3:n * es.length<=26 * 3:=Nat.mul_le_mul hn (by omega)
 have h4:sumL es<=78:=by omega
 exact Nat.le_trans (Nat.mul_le_mul (show 2 * sumL es<=156 by omega) (show sumL es + 2<=80 by omega)) (by decide)
theorem Pap.gr {bs:List Box} {rs:List Row} {n:Nat} {es:List Ent} (h:Pap bs rs n es):Pap bs rs n (gr bs rs es):=⟨by rw [e0Z]; exact h.nm,fun e' he'=>by
 obtain ⟨e,he,_,h2,h3⟩:=(z0Q bs rs es).mem he'
 obtain ⟨g1,g2⟩:=h.e e he
 exact ⟨Nat.le_trans h2 g1,fun x hx=>g2 x (h3 x hx)⟩⟩
def bEq (es' es:List Ent):Bool:=(List.range es'.length).all fun i=>decide ((es'.getD i ("",[])).2.length=(es.getD i ("",[])).2.length)
theorem q9Z {es' es:List Ent} (h:uJ es' es):bEq es' es=true ↔ es'=es:=by
 unfold bEq
 rw [List.all_eq_true]
 constructor
 ·intro hb
  refine List.ext_getElem? fun i=>?_
  rcases Nat.lt_or_ge i es'.length with hi | hi
  ·obtain ⟨e',e,h1,h2,em,f,ef⟩:=h.get (i:=i) (by rw [<-h.1]; exact hi)
   have:=of_decide_eq_true (hb i (List.mem_range.mpr hi))
   rw [List.getD_eq_getElem?_getD,List.getD_eq_getElem?_getD,h1,h2] at this
   have h3:(e.2.filter fun x=>f x.2).length=e.2.length:=by rw [<-ef]; exact this
   have h4:=List.Sublist.eq_of_length List.filter_sublist h3
   rw [h1,h2,show e'=e from Prod.ext em (by rw [ef,h4])]
  ·rw [List.getElem?_eq_none hi,List.getElem?_eq_none (by rw [<-h.1]; exact hi)]
 ·rintro rfl i _
  exact decide_eq_true rfl
theorem j7Z {G G' H:Hp} {p q:Addr} {as' as:List (Addr × Addr)} {es' es:List Ent} (A':kZ G' H p as' es') (A:kZ G H q as es) (hP:uJ es' es) (hh:∀ a∈as,G' a.1≠none/\G' a.2≠none) (k:Bool->Bool) {Q:VK} (hq:Q (.bl (k (bEq es' es))) H):rDcd k (.ref p) (.ref q) H Q:=by
 have l1:=A'.each.1
 have l2:=A.each.1
 have l3:=hP.1
 refine ⟨3,p,q,_,_,fun i=>decide ((es'.getD i ("",[])).2.length=(es.getD i ("",[])).2.length),by decide,rfl,rfl,A'.at_,A.at_,by rw [List.length_map,List.length_map]; omega,fun i u v h1 h2=>?_,by rw [List.length_map,l1]; exact hq⟩
 rw [List.getElem?_map] at h1 h2
 obtain ⟨a',ha',rfl⟩:=Option.map_eq_some_iff.mp h1
 obtain ⟨a,ha,rfl⟩:=Option.map_eq_some_iff.mp h2
 obtain ⟨e',he',g1,g2,_,E'⟩:=A'.each.at ha'
 obtain ⟨e,he,_,_,_,E⟩:=A.each.at ha
 obtain ⟨em,f,ef⟩:=hP.2 i e' e he' he
 have hm:=hh a (List.mem_of_getElem? ha)
 have ee:e'=(e.1,e.2.filter fun x=>f x.2):=Prod.ext em ef
 show Dcd H 3 _ _ (decide ((es'.getD i ("",[])).2.length=(es.getD i ("",[])).2.length))
 rw [List.getD_eq_getElem?_getD,List.getD_eq_getElem?_getD,he',he]
 rw [ee] at E' ⊢
 exact j1Z E' E (fun z=>hm.1 (z ▸ g1)) (fun z=>hm.2 (z ▸ g2))
def dbl (e:Ent):Ent:=(e.1,e.2++e.2.reverse)
theorem r9Z (es:List Ent):(es.map dbl).map Prod.fst=es.map Prod.fst:=by rw [List.map_map]; rfl
theorem Pap.dbl {bs:List Box} {rs:List Row} {es:List Ent} (h:Pap bs rs 12 es):Pap bs rs 24 (es.map dbl):=⟨by rw [r9Z]; exact h.nm,fun e he=>by
 obtain ⟨e0,he0,rfl⟩:=List.mem_map.mp he
 obtain ⟨g1,g2⟩:=h.e e0 he0
 refine ⟨by show (e0.2++e0.2.reverse).length<=24; rw [List.length_append,List.length_reverse]; omega,fun x hx=>?_⟩
 rcases List.mem_append.mp hx with h1 | h1
 ·exact g2 x h1
 ·exact g2 x (List.mem_reverse.mp h1)⟩
section
theorem s9Z {X:Cx} (K:W.Frag) {e st:Expr} {te ts:TE} {p2 pos:Pos} (he:PE X e te) (hs:PE X st ts) (h:X.K=K:=by rfl):PE X (.Subscript e (.Slice none none (some st) p2) pos) (a0X K te ts):=by
 subst h
 exact h1X he hs
theorem xU:yQ ["script","d","program","paper","due","handed","found","answer","mark","some"] ["script"] (gQ sLaw):=(by wtm_at "f")
theorem c2X {fl:Addr} {fdl:FuncData} (F:Fun K "law" "law" sLaw fl fdl) (B:Blt mg) (cD:Cal P w K mg base 1 "_law_draws" ["script","many"] (f1Z K 130)) (cP:Cal P w K mg base 4 "_law_program" ["d"] spProgram) (cW:Cal P w K mg base 3 "_law_drawn" ["d","spot","most","program"] spDrawn) (cX:Cal P w K mg base 23 "_law_left" ["program","paper"] spLeft) (cC:Cal P w K mg base 1 "_law_copied" ["paper"] spCopied) (cR:Cal P w K mg base 23 "is_right" ["program","paper"] spIsRight) (cG:Cal P w K mg base 23 "greatest" ["program","paper"] spGreatest) (cE:Cal P w K mg base 2 "_law_alike" ["found","due"] spAlike):gU P w K mg base CX0 24 fl fdl ["script"] (o1Z K):=by
 refine F.ok xU (fun vs H Q E h=>?_) (fun cdv A outer s H vs Q E hr h=>?_)
 ·obtain ⟨a,ns,rfl,_⟩:=h
  rfl
 obtain ⟨a,ns,rfl,hS,h63,q⟩:=h
 have hr:sZ 23 _:=hr
 have hr4:sZ 4 _:=hr.mono (by decide)
 have hr3:sZ 3 _:=hr.mono (by decide)
 have hr2:sZ 2 _:=hr.mono (by decide)
 have hr1:sZ 1 _:=hr.mono (by decide)
 refine ⟨_,(@bQ _ _ _ _ _ (@qQ _ _ 1 _ _ _ _ xU.nd rfl (Or.inl rfl) (wQ cD hr1 rfl (@aQ _ _ _ _ _ (pv 0) (@aQ _ _ _ _ _ cQ eQ rfl) rfl)) rfl (Or.inl rfl)) (@bQ _ _ _ _ _ (@qQ _ _ 2 _ _ _ _ xU.nd rfl (Or.inl rfl) (wQ cP hr4 rfl (@aQ _ _ _ _ _ (pv 1) eQ rfl)) rfl (Or.inl rfl)) (@bQ _ _ _ _ _ (@qQ _ _ 3 _ _ _ _ xU.nd rfl (Or.inl rfl) (wQ cW hr3 rfl (@aQ _ _ _ _ _ (pv 1) (@aQ _ _ _ _ _ cQ (@aQ _ _ _ _ _ cQ (@aQ _ _ _ _ _ (pv 2) eQ rfl) rfl) rfl) rfl)) rfl (Or.inl rfl)) (@bQ _ _ _ _ _ (@cZ _ _ _ _ _ _ _ _ (@rQ _ _ _ _ _ _ _ _ aZ (@lQ _ _ _ _ _ _ _ _ gZ (@mQ _ _ _ _ _ _ _ zQ (pv 1) cQ (fun _ _=>rfl)) cQ) cQ (nQ _)) (@fQ _ _ _ (y9Z (i:=3) (gQ sLaw) ["script","d","program","paper","due","handed","found","answer","mark","some"] (N:=["mark","some"]) (ix:=[none,none]) rfl xU.nd rfl (Or.inl rfl) (by wtm_at "g") (xZ (pv 3)) (fun _ _ _ _=>pgt K 2 rfl (jZ (uQ (i:=0) (show (["mark","some"]:List Str).Nodup by decide +kernel) rfl (Or.inl rfl)) (jZ (uQ (i:=1) (show (["mark","some"]:List Str).Nodup by decide +kernel) rfl (Or.inl rfl)) dJ))) (fun _ _ _ _=>bW) (fun _ _ _ _=>(iZ (aQ (pv 0) (aQ (lQ z0X (pv 1) (s9Z K (pv 1) (o2Q qO cQ))) eQ)))))) sQ) (@bQ _ _ _ _ _ (@qQ _ _ 4 _ _ _ _ xU.nd rfl (Or.inl rfl) (wQ cX hr rfl (@aQ _ _ _ _ _ (pv 2) (@aQ _ _ _ _ _ (pv 3) eQ rfl) rfl)) rfl (Or.inl rfl)) (@bQ _ _ _ _ _ (@qQ _ _ 5 _ _ _ _ xU.nd rfl (Or.inl rfl) (wQ cC hr1 rfl (@aQ _ _ _ _ _ (pv 3) eQ rfl)) rfl (Or.inl rfl)) (@bQ _ _ _ _ _ (@qQ _ _ 6 _ _ _ _ xU.nd rfl (Or.inl rfl) (wQ cG hr rfl (@aQ _ _ _ _ _ (pv 2) (@aQ _ _ _ _ _ (pv 5) eQ rfl) rfl)) rfl (Or.inl rfl)) (@bQ _ _ _ _ _ (@cZ _ _ _ _ _ _ _ _ (@PW.pt _ _ _ (@xV _ _ _ _ _ _ _ (@nW _ _ _ _ (@lJ _ _ _ (wQ cE hr2 rfl (@aQ _ _ _ _ _ (pv 6) (@aQ _ _ _ _ _ (pv 4) eQ rfl) rfl)) (by intro _; rfl))) (@xV _ _ _ _ _ _ _ (@rQ _ _ _ _ _ _ _ _ (b5Z hr.units) (pv 5) (pv 3) (nQ _)) (@mW _ _ _ _ (@rQ _ _ _ _ _ _ _ _ h2Z (wQ cR hr rfl (@aQ _ _ _ _ _ (pv 2) (@aQ _ _ _ _ _ (pv 6) eQ rfl) rfl)) jW (nQ _)))))) (@fQ _ _ _ (@oQ _ _ _ _ jW)) sQ) (@bQ _ _ _ _ _ (@qQ _ _ 7 _ _ _ _ xU.nd rfl (Or.inl rfl) (wQ cR hr rfl (@aQ _ _ _ _ _ (pv 2) (@aQ _ _ _ _ _ (pv 5) eQ rfl) rfl)) rfl (Or.inl rfl)) (@bQ _ _ _ _ _ (@cZ _ _ _ _ _ _ _ _ (@PW.pt _ _ _ (@xV _ _ _ _ _ _ _ (@nW _ _ _ _ (@lJ _ _ _ (@bZ _ _ _ _ _ _ _ _ _ wX rfl B.isinstance eX (@aQ _ _ _ _ _ (pv 7) (@aQ _ _ _ _ _ (oV (v:=.ty "bool") rfl B.bool u0Z rfl) eQ rfl) rfl) (by decide) (by decide) rfl rfl) (by intro _; rfl))) (@mW _ _ _ _ (@rQ _ _ _ _ _ _ _ _ b0Q (pv 7) (@lZ _ _ _ _ _ _ _ _ (i5Z hr.units) (pv 4) (pv 3) (nQ _)) (nQ _))))) (@fQ _ _ _ (@oQ _ _ _ _ jW)) sQ) (@bQ _ _ _ _ _ (@cZ _ _ _ _ _ _ _ _ (@nW _ _ _ _ (@lJ _ _ _ (wQ cE hr2 rfl (@aQ _ _ _ _ _ (wQ cG hr rfl (@aQ _ _ _ _ _ (pv 2) (@aQ _ _ _ _ _ (pv 6) eQ rfl) rfl)) (@aQ _ _ _ _ _ (pv 4) eQ rfl) rfl)) (by intro _; rfl))) (@fQ _ _ _ (@oQ _ _ _ _ jW)) sQ) (@bQ _ _ _ _ _ (@uZ _ _ _ _ _ _ _ _ PassesOwn.never rfl (@xZ _ _ _ _ (pv 6)) (jK rfl (jZ (uQ (i:=8) xU.nd rfl (Or.inl rfl)) (jZ (uQ (i:=9) xU.nd rfl (Or.inl rfl)) dJ))) (@fQ _ _ _ (@lX _ _ _ _ (iV PySem.F.plainAttrs_list PySem.F.slot_list_append PySem.F.type_list_append iX (pv 9) (@aQ _ _ _ _ _ (@iZ _ _ _ _ _ (@aQ _ _ _ _ _ tQ (@aQ _ _ _ _ _ cQ (@aQ _ _ _ _ _ cQ eQ rfl) rfl) rfl)) eQ rfl)) rfl)) (by intro _; rfl)) (@bQ _ _ _ _ _ (@lX _ _ _ _ (iV PySem.F.plainAttrs_list PySem.F.slot_list_append PySem.F.type_list_append iX (pv 6) (@aQ _ _ _ _ _ (@iZ _ _ _ _ _ (@aQ _ _ _ _ _ tQ (@aQ _ _ _ _ _ (@jX _ _ _ _ eQ) eQ rfl) rfl)) eQ rfl)) rfl) (@fQ _ _ _ (@oQ _ _ _ _ (n0X (@lZ _ _ _ _ _ _ _ _ (i1X hr.units) (pv 5) (pv 3) (nQ _)) (y5Q (wQ cE hr2 rfl (@aQ _ _ _ _ _ (wQ cG hr rfl (@aQ _ _ _ _ _ (pv 2) (@aQ _ _ _ _ _ (pv 5) eQ rfl) rfl)) (@aQ _ _ _ _ _ (pv 4) eQ rfl) rfl))))))))))))))))))),?_⟩
 refine ⟨_,rfl,a,ns,rfl,by decide,hS,h63,fun pd ds H1 hpd s1 D1 dl sm=>?_⟩
 refine ⟨_,rfl,pd,ds,rfl,D1,by omega,sm,fun pp pb pr us ur bs rs H2 hpp s2 G2 O2 b1 b3 v9 r9 m3 nd _=>?_⟩
 have D2:=s2 _ _ D1
 refine ⟨_,rfl,_,rfl,pd,pp,pb,pr,ds,us,ur,bs,rs,50,12,rfl,by decide,D2,by omega,by decide,sm,G2,b1,b3,O2.l60,m3,fun p3 a3 es0 H3 s3 A3 em3 eo3=>?_⟩
 have F3:Pap bs rs 12 es0:=⟨em3,eo3⟩
 obtain ⟨x126,a126,_,_,_⟩:=d_at sm (i:=126) (by omega)
 refine i3X (i0Q (fun σ' H'=>∃ (p6:Addr) (as6:List (Addr × Addr)) (es:List Ent),σ'=[some (.ref a),some (.ref pd),some (.ref pp),some (.ref p6),none,none,none,none,none,none]/\iQ H2 H'/\kZ H2 H' p6 as6 es/\Pap bs rs 24 es) (fun R' hR'=>?_) ?_)
 ·refine ⟨_,rfl,pd,_,((126:Nat):Int),_,rfl,rfl,SqL.of (s3 _ _ D2),a126,_,_,rfl,rfl,(by decide:(0:Int) < 3),rfl,_,rfl,sX (fun _=>?_) (fun _=>hR' _ _ ⟨p3,a3,es0,rfl,s3,A3,F3.nm,fun e he=>⟨by have:=(F3.e e he).1; omega,(F3.e e he).2⟩⟩)⟩
  have al3:=A3.each.1
  have l3:=F3.len
  refine ⟨_,rfl,p3,rfl,⟨_,SqL.of A3.at_⟩,fun D hD=>?_⟩
  refine qV (K:=K) (a:=p3) (xs:=a3.map fun a=>V.ref a.1) (fun i ys σ H'=>(∃ c0 c1:Option V,σ=[c0,c1])/\∃ (as:List (Addr × Addr)),ys=as.map (fun a=>V.ref a.1)/\H' D=some (.lst ys)/\iQ H3 H'/\tX (fun (a:Addr × Addr) e=>H3 a.1=none/\H3 a.2=none/\a.2≠D/\jJ H' a.1 a.2 e) as ((es0.take i).map dbl))
   ⟨⟨none,none,rfl⟩,[],rfl,dQ,iQ.new hD _,⟨rfl,fun i x y h=>nomatch h⟩⟩ (fun i ys σ H' _ hh=>by obtain ⟨_,_,_,_,s',_⟩:=hh; exact SqL.of (s' _ _ A3.at_)) ?_ ?_
  ·rintro i x ys σ H7 hi ⟨⟨c0,c1,rfl⟩,as,rfl,D7,s7,A7⟩
   rw [List.getElem?_map] at hi
   obtain ⟨ae,ha,rfl⟩:=Option.map_eq_some_iff.mp hi
   obtain ⟨e,he,_,_,_,E0⟩:=A3.each.at ha
   have E7:=E0.same s7
   have el:=(F3.e e (List.mem_of_getElem? he)).1
   have al:=A7.1
   have il:=(List.getElem?_eq_some_iff.mp he).1
   rw [List.length_map,List.length_take] at al
   refine ⟨ae.1,_,rfl,SqT.of E7.t,rfl,_,_,rfl,_,_,rfl,rfl,?_⟩
   simp only [tTrue,↓reduceIte]
   refine ⟨_,rfl,_,rfl,_,rfl,_,rfl,rfl,ae.2,_,rfl,SqL.of E7.l,fun L1 hL1=>?_⟩
   have sL1:=iQ.new hL1 (.lst (e.2.map Prod.fst).reverse)
   have L18:upd H7 L1 (.lst (e.2.map Prod.fst).reverse) L1=some (.lst (e.2.reverse.map Prod.fst)):=by rw [dQ,List.map_reverse]
   have D8:=sL1 _ _ D7
   have E8:=E7.same sL1
   have s8:=s7.trans sL1
   generalize upd H7 L1 (.lst (e.2.map Prod.fst).reverse)=H8 at *
   refine ⟨ae.2,L1,_,_,rfl,rfl,E8.l,L18,(by rw [List.length_map,List.length_map,List.length_reverse,sizeLine_eq]; omega),fun L hL=>?_⟩
   have sL:=iQ.new hL (.lst (e.2.map Prod.fst++e.2.reverse.map Prod.fst))
   have L9:upd H8 L (.lst (e.2.map Prod.fst++e.2.reverse.map Prod.fst)) L=some (.lst ((dbl e).2.map Prod.fst)):=by rw [dQ]; show _=some (HO.lst ((e.2++e.2.reverse).map Prod.fst)); rw [List.map_append]
   have LD:L≠D:=fun z=>by rw [z,D8] at hL; cases hL
   have L6:H3 L=none:=iQ.free s8 hL
   have D9:=sL _ _ D8
   have E9:=E8.same sL
   have s79:=sL1.trans sL
   have s9:=s8.trans sL
   generalize upd H8 L (.lst (e.2.map Prod.fst++e.2.reverse.map Prod.fst))=H9 at *
   refine ⟨(by show 2<=sizeLine; decide),fun t ht=>?_⟩
   have st:=iQ.new ht (.tup [.str e.1,.ref L])
   have t6:H3 t=none:=iQ.free s9 ht
   have E10:jJ (upd H9 t (.tup [.str e.1,.ref L])) t L (dbl e):=⟨dQ,st _ _ L9,fun x hx=>by
    rcases List.mem_append.mp hx with h | h
    ·exact (E9.s x h).same st
    ·exact (E9.s x (List.mem_reverse.mp h)).same st⟩
   have D10:=st _ _ D9
   have s710:=s79.trans st
   have s10:=s9.trans st
   generalize upd H9 t (.tup [.str e.1,.ref L])=H10 at *
   refine ⟨D10,eZ (by rw [List.length_map]; omega),⟨_,_,rfl⟩,as++[(t,L)],by rw [List.map_append]; rfl,dQ,fun c o e=>by rw [kQ (jQ e hD)]; exact s10 _ _ e,?_⟩
   rw [List.take_add_one,he,List.map_append]
   refine pJ (A7.mono fun _ _ h=>⟨h.1,h.2.1,h.2.2.1,(h.2.2.2.same s710).put D10 h.2.2.1⟩) ⟨rfl,fun k x y hx hy=>?_⟩
   match k,hx,hy with
   | 0,rfl,rfl=>exact ⟨t6,L6,LD,E10.put D10 LD⟩
  rintro ys σ H7 ⟨_,as7,rfl,D7,s7,A7⟩
  rw [List.length_map,al3,List.take_length] at A7
  have P7:kZ H3 H7 D as7 (es0.map dbl):=⟨hD,D7,A7⟩
  exact hR' _ _ ⟨D,as7,es0.map dbl,rfl,s3.trans s7,P7.old s3,F3.dbl⟩
 rintro σ6 H6 ⟨p6,as6,es,rfl,s6,P6,F6⟩
 have h64:(mks rs).length * vol bs < 64:=Nat.lt_of_le_of_lt (Nat.mul_le_mul m3 v9) (by decide)
 have Fg:=F6.gr
 have l60:∀ {es':List Ent},Pap bs rs 24 es'->es'.length<=60:=fun F'=>by have:=F'.len; omega
 have l100:∀ {es':List Ent},Pap bs rs 24 es'->∀ e∈es',e.2.length<=100:=fun F' e he=>by have:=(F'.e e he).1; omega
 have asks:∀ {H' G':Hp} {p':Addr} {as':List (Addr × Addr)} {es':List Ent},iQ H6 H'->kZ G' H' p' as' es'->Pap bs rs 24 es'->Asks H' pp pb pr p' us ur bs rs G' as' es':=fun s' A' F'=>F'.asks (by decide) m3 O2 nd ((G2.same s6).same s') A'
 refine ⟨_,rfl,_,rfl,pp,pb,pr,p6,us,ur,bs,rs,H2,as6,es,rfl,G2.same s6,O2,nd,h64,P6,F6.nm,fun e he=>⟨l100 F6 e he,(F6.e e he).2⟩,fun p7 as7 H7 s7 A7=>?_⟩
 have P67:=P6.same s7
 refine ⟨_,rfl,p6,H2,as6,es,rfl,P67,l60 F6,l100 F6,fun p8 as8 H8 s8 A8=>?_⟩
 have s68:=s7.trans s8
 refine ⟨_,rfl,_,rfl,pp,pb,pr,p8,us,ur,bs,rs,H7,as8,es,rfl,asks s68 A8 F6,fun p9 as9 H9 s9 A9=>?_⟩
 have P68:=P6.same s68
 have A78:=A7.same s8
 refine ⟨_,rfl,_,rfl,p9,p7,as9,as7,_,H8,H6,rfl,A9,A78.same s9,l60 Fg,l100 Fg,fun Ha sa=>⟨_,rfl,kY ?_⟩⟩
 have s8a:=s9.trans sa
 refine ⟨_,rfl,_,rfl,5,p8,p6,by decide,rfl,rfl,.inr ⟨_,(A8.same s8a).at_⟩,v5Q (A8.same s8a) (P68.same s8a) (l60 F6) (l100 F6),_,rfl,kY ?_⟩
 have hU:isR bs rs (gr bs rs es)=true:=zK.mpr (pU bs rs es)
 refine ⟨_,rfl,_,rfl,pp,pb,pr,p9,us,ur,bs,rs,H8,as9,_,rfl,asks (s68.trans s8a) (A9.same sa) Fg,fun Hb sb=>⟨_,_,rfl,rfl,_,rfl,nJ (by rw [hU]; rfl) ?_⟩⟩
 have s8b:=s8a.trans sb
 refine ⟨_,rfl,_,rfl,pp,pb,pr,p8,us,ur,bs,rs,H7,as8,es,rfl,asks (s68.trans s8b) (A8.same s8b) F6,fun Hc sc=>?_⟩
 have s8c:=s8b.trans sc
 have hR6:isR bs rs es=bEq (gr bs rs es) es:=by
  rw [Bool.eq_iff_iff,zK,q9Z (z0Q bs rs es)]
  exact ⟨x6Q,fun h=>by have:=pU bs rs es; rwa [h] at this⟩
 refine ⟨_,rfl,_,_,_,_,rfl,.bl _,jV K "bool",_,rfl,kY ?_⟩
 refine ⟨_,rfl,_,rfl,_,rfl,j7Z (A78.same s8c) (P68.same s8c) (z0Q bs rs es) (y0Q P6) id ⟨rfl,_,rfl,d5Q (by rw [hR6]; rfl) ?_⟩⟩
 have s9c:=(sa.trans sb).trans sc
 refine ⟨_,rfl,_,rfl,pp,pb,pr,p9,us,ur,bs,rs,H8,as9,_,rfl,asks (s68.trans s8c) (A9.same s9c) Fg,fun pe ase He se Ae=>?_⟩
 rw [x6Q (pU bs rs es)] at Ae
 have s8e:=s8c.trans se
 refine ⟨_,rfl,pe,p7,ase,as7,_,Hc,H6,rfl,Ae,A78.same s8e,l60 Fg,l100 Fg,fun Hf sf=>⟨_,rfl,kY ?_⟩⟩
 have s8f:=s8e.trans sf
 have A9f:=A9.same ((s9c.trans se).trans sf)
 have lg:=Fg.len
 have al9:=A9.each.1
 refine ⟨_,rfl,p9,rfl,⟨_,SqL.of A9f.at_⟩,kX (K:=K) (a:=p9) (xs:=as9.map fun a=>V.ref a.1) (fun i σ H'=>(∃ c7 c8 c9:Option V,σ=[some (.ref a),some (.ref pd),some (.ref pp),some (.ref p6),some (.ref p7),some (.ref p8),some (.ref p9),c7,c8,c9])/\iQ H8 H'/\H' p9=some (.lst (as9.map fun a=>V.ref a.1))/\∀ a∈as9,(H8 a.2=none/\a.2≠p9)/\(∃ z,H' a.1=some (.tup [.str z,.ref a.2]))/\∃ ys,H' a.2=some (.lst ys)/\ys.length<=100 + i)
  ⟨⟨_,none,none,rfl⟩,s8f,A9f.at_,fun a ha=>?_⟩ (fun i σ H' _ hh=>SqL.of hh.2.2.1) ?_ ?_⟩
 ·obtain ⟨i,hi⟩:=List.mem_iff_getElem?.mp ha
  obtain ⟨e,he,_,g2,g3,E0⟩:=A9f.each.at hi
  exact ⟨⟨g2,g3⟩,⟨_,E0.t⟩,_,E0.l,by rw [List.length_map]; exact l100 Fg e (List.mem_of_getElem? he)⟩
 ·rintro i y σ Hg hi ⟨⟨c7,c8,c9,rfl⟩,sg,Pg,fg⟩
  rw [List.getElem?_map] at hi
  obtain ⟨ae,ha,rfl⟩:=Option.map_eq_some_iff.mp hi
  obtain ⟨⟨g2,g3⟩,⟨z,tz⟩,ys,hy,yl⟩:=fg ae (List.mem_of_getElem? ha)
  have il:=(List.getElem?_eq_some_iff.mp ha).1
  refine ⟨ae.1,_,rfl,SqT.of tz,rfl,_,_,rfl,_,_,rfl,rfl,?_⟩
  refine ⟨_,rfl,.inl ⟨rfl,_,SqL.of hy⟩,(by show 3<=sizeLine; decide),fun t ht=>?_⟩
  have st:=iQ.new ht (.tup [.str "is",.int 0,.int 0])
  have sgt:=sg.trans st
  refine ⟨ae.2,_,_,rfl,rfl,st _ _ hy,eZ (by omega),⟨_,_,_,rfl⟩,fun c o e=>by rw [kQ (jQ e g2)]; exact sgt _ _ e,by rw [kQ g3.symm]; exact st _ _ Pg,fun b hb=>?_⟩
  obtain ⟨k1,⟨z',tz'⟩,ys',hy',yl'⟩:=fg b hb
  refine ⟨k1,⟨z',by rw [kQ (zO tz' hy (fun z=>nomatch z))]; exact st _ _ tz'⟩,?_⟩
  by_cases hba:b.2=ae.2
  ·rw [hba,dQ]
   exact ⟨_,rfl,by rw [List.length_append]; show ys.length + 1<=_; omega⟩
  ·rw [kQ hba]
   exact ⟨_,st _ _ hy',by omega⟩
 ·rintro σ Hg ⟨⟨c7,c8,c9,rfl⟩,sg,Pg,_⟩
  refine ⟨_,rfl,.inl ⟨rfl,_,SqL.of Pg⟩,(by show 0<=sizeLine; decide),fun l hl=>?_⟩
  have sl:=iQ.new hl (.lst [])
  refine ⟨(by show 2<=sizeLine; decide),fun t ht=>?_⟩
  have st:=iQ.new ht (.tup [.str "c",.ref l])
  have slt:=sl.trans st
  refine ⟨p9,_,_,rfl,rfl,slt _ _ Pg,eZ (by rw [List.length_map]; omega),?_⟩
  have sh:iQ H8 (upd (upd (upd Hg l (.lst [])) t (.tup [.str "c",.ref l])) p9 (.lst ((as9.map fun a=>V.ref a.1)++[.ref t]))):=fun c o e=>by rw [kQ (jQ e A9.fr)]; exact slt _ _ (sg _ _ e)
  generalize upd (upd (upd Hg l (.lst [])) t (.tup [.str "c",.ref l])) p9 (.lst ((as9.map fun a=>V.ref a.1)++[.ref t]))=Hh at *
  refine ⟨_,rfl,_,rfl,5,p8,p6,by decide,rfl,rfl,.inr ⟨_,(A8.same sh).at_⟩,v5Q (A8.same sh) (P68.same sh) (l60 F6) (l100 F6),_,rfl,iteT ?_⟩
  refine ⟨_,rfl,_,rfl,pp,pb,pr,p8,us,ur,bs,rs,H7,as8,es,rfl,asks (s68.trans sh) (A8.same sh) F6,fun pi asi Hi si Ai=>?_⟩
  have s8i:=sh.trans si
  exact ⟨_,rfl,pi,p7,asi,as7,_,Hh,H6,rfl,Ai,A78.same s8i,l60 Fg,l100 Fg,fun Hj sj=>q Hj⟩
end
theorem ln1 {α:Type} {us:List α} (h:us.length=1):∃ a0,us=[a0]:=match us,h with | [a0],_=>⟨a0,rfl⟩
theorem ln2 {α:Type} {us:List α} (h:us.length=2):∃ a0 a1,us=[a0,a1]:=match us,h with | [a0,a1],_=>⟨a0,a1,rfl⟩
theorem ln3 {α:Type} {us:List α} (h:us.length=3):∃ a0 a1 a2,us=[a0,a1,a2]:=match us,h with | [a0,a1,a2],_=>⟨a0,a1,a2,rfl⟩
theorem ln4 {α:Type} {us:List α} (h:us.length=4):∃ a0 a1 a2 a3,us=[a0,a1,a2,a3]:=match us,h with | [a0,a1,a2,a3],_=>⟨a0,a1,a2,a3,rfl⟩
theorem ln6 {α:Type} {us:List α} (h:us.length=6):∃ a0 a1 a2 a3 a4 a5,us=[a0,a1,a2,a3,a4,a5]:=match us,h with | [a0,a1,a2,a3,a4,a5],_=>⟨a0,a1,a2,a3,a4,a5,rfl⟩
theorem all_mk {l:W.OpenLaw} {w:World} {K:W.Frag} {h:Heap} {mg:Str->Option Value} {fa f1 f2 f3 f4 f5 f6 f7 f8 f9 f10 f11 f12 f13 f14 f15 f16 f17 f18 f19 f20 f21 f22 f23 f24 f25 f26 f27 f28 f29 f30 f31 f32 f33 f34 f35 f36 f37 f38 f39 f40 f41 f42 f43 f44 f45 f46 f47 f48:Addr} (X:K.In h) (G:h.Ns mainGlobals mg) (hfa:mg "law"=some (.ref fa))
  {od1 an1 od2 an2 od3 an3 od4 an4 od5 an5 od6 an6 od7 an7 od8 an8 od9 an9 od10 an10 od11 an11 od12 an12 od13 an13 od14 an14 od15 an15 od16 an16 od17 an17 od18 an18 od19 an19 od20 an20 od21 an21 od22 an22 od23 an23 od24 an24 od25 an25 od26 an26 od27 an27 od28 an28 od29 an29 od30 an30 od31 an31 od32 an32 od33 an33 od34 an34 od35 an35 od36 an36 od37 an37 od38 an38 od39 an39 od40 an40 od41 an41 od42 an42 od43 an43 od44 an44 od45 an45 od46 an46 od47 an47 od48 an48:Option Addr} {sl1 sl2 sl3 sl4 sl5 sl6 sl7 sl8 sl9 sl10 sl11 sl12 sl13 sl14 sl15 sl16 sl17 sl18 sl19 sl20 sl21 sl22 sl23 sl24 sl25 sl26 sl27 sl28 sl29 sl30 sl31 sl32 sl33 sl34 sl35 sl36 sl37 sl38 sl39 sl40 sl41 sl42 sl43 sl44 sl45 sl46 sl47 sl48:Array (Option Value)} {oc1 kV1 dc1 pm1 cd1 ct1 oc2 kV2 dc2 pm2 cd2 ct2 oc3 kV3 dc3 pm3 cd3 ct3 oc4 kV4 dc4 pm4 cd4 ct4 oc5 kV5 dc5 pm5 cd5 ct5 oc6 kV6 dc6 pm6 cd6 ct6 oc7 kV7 dc7 pm7 cd7 ct7 oc8 kV8 dc8 pm8 cd8 ct8 oc9 kV9 dc9 pm9 cd9 ct9 oc10 kV10 dc10 pm10 cd10 ct10 oc11 kV11 dc11 pm11 cd11 ct11 oc12 kV12 dc12 pm12 cd12 ct12 oc13 kV13 dc13 pm13 cd13 ct13 oc14 kV14 dc14 pm14 cd14 ct14 oc15 kV15 dc15 pm15 cd15 ct15 oc16 kV16 dc16 pm16 cd16 ct16 oc17 kV17 dc17 pm17 cd17 ct17 oc18 kV18 dc18 pm18 cd18 ct18 oc19 kV19 dc19 pm19 cd19 ct19 oc20 kV20 dc20 pm20 cd20 ct20 oc21 kV21 dc21 pm21 cd21 ct21 oc22 kV22 dc22 pm22 cd22 ct22 oc23 kV23 dc23 pm23 cd23 ct23 oc24 kV24 dc24 pm24 cd24 ct24 oc25 kV25 dc25 pm25 cd25 ct25 oc26 kV26 dc26 pm26 cd26 ct26 oc27 kV27 dc27 pm27 cd27 ct27 oc28 kV28 dc28 pm28 cd28 ct28 oc29 kV29 dc29 pm29 cd29 ct29 oc30 kV30 dc30 pm30 cd30 ct30 oc31 kV31 dc31 pm31 cd31 ct31 oc32 kV32 dc32 pm32 cd32 ct32 oc33 kV33 dc33 pm33 cd33 ct33 oc34 kV34 dc34 pm34 cd34 ct34 oc35 kV35 dc35 pm35 cd35 ct35 oc36 kV36 dc36 pm36 cd36 ct36 oc37 kV37 dc37 pm37 cd37 ct37 oc38 kV38 dc38 pm38 cd38 ct38 oc39 kV39 dc39 pm39 cd39 ct39 oc40 kV40 dc40 pm40 cd40 ct40 oc41 kV41 dc41 pm41 cd41 ct41 oc42 kV42 dc42 pm42 cd42 ct42 oc43 kV43 dc43 pm43 cd43 ct43 oc44 kV44 dc44 pm44 cd44 ct44 oc45 kV45 dc45 pm45 cd45 ct45 oc46 kV46 dc46 pm46 cd46 ct46 oc47 kV47 dc47 pm47 cd47 ct47 oc48 kV48 dc48 pm48 cd48 ct48:Value} {gr1:Addr} {go1:Option Addr} {gn1:Nat} {gs1:Array (Option Value)} {gk1_0 gk1_1 gk1_2 gk1_3 gk1_4 gk1_5:Tok} {C1:Addr} {mf1_1:Addr} {mod1_1 man1_1:Option Addr} {msl1_1:Array (Option Value)} {moc1_1 mkV1_1 mdc1_1 mpm1_1 mcd1_1 mct1_1:Value} {mf1_2:Addr} {mod1_2 man1_2:Option Addr} {msl1_2:Array (Option Value)} {moc1_2 mkV1_2 mdc1_2 mpm1_2 mcd1_2 mct1_2:Value} {mf1_3:Addr} {mod1_3 man1_3:Option Addr} {msl1_3:Array (Option Value)} {moc1_3 mkV1_3 mdc1_3 mpm1_3 mcd1_3 mct1_3:Value} {mf1_4:Addr} {mod1_4 man1_4:Option Addr} {msl1_4:Array (Option Value)} {moc1_4 mkV1_4 mdc1_4 mpm1_4 mcd1_4 mct1_4:Value} {mf1_5:Addr} {mod1_5 man1_5:Option Addr} {msl1_5:Array (Option Value)} {moc1_5 mkV1_5 mdc1_5 mpm1_5 mcd1_5 mct1_5:Value}
  (a1:W.nsIn K mainGlobals "is_so_of_one"=some (some (.ref f1))) (l1:K.lookup f1=some ⟨oc1,od1,.func (W.fnOf "is_so_of_one" "is_so_of_one" (xQ eW) (vQ eW) (gQ eW) .none kV1 dc1 pm1 an1 cd1 ct1),sl1⟩) (c1:W.codeIn K cd1 "is_so_of_one"=true) (k1:W.keepIn K (.ref f1)=true)
  (a2:W.nsIn K mainGlobals "is_so_of_two"=some (some (.ref f2))) (l2:K.lookup f2=some ⟨oc2,od2,.func (W.fnOf "is_so_of_two" "is_so_of_two" (xQ fW) (vQ fW) (gQ fW) .none kV2 dc2 pm2 an2 cd2 ct2),sl2⟩) (c2:W.codeIn K cd2 "is_so_of_two"=true) (k2:W.keepIn K (.ref f2)=true)
  (a3:W.nsIn K mainGlobals "is_so"=some (some (.ref f3))) (l3:K.lookup f3=some ⟨oc3,od3,.func (W.fnOf "is_so" "is_so" (xQ e1Q) (vQ e1Q) (gQ e1Q) .none kV3 dc3 pm3 an3 cd3 ct3),sl3⟩) (c3:W.codeIn K cd3 "is_so"=true) (k3:W.keepIn K (.ref f3)=true)
  (a4:W.nsIn K mainGlobals "lengthened"=some (some (.ref f4))) (l4:K.lookup f4=some ⟨oc4,od4,.func (W.fnOf "lengthened" "lengthened" (xQ fJ) (vQ fJ) (gQ fJ) .none kV4 dc4 pm4 an4 cd4 ct4),sl4⟩) (c4:W.codeIn K cd4 "lengthened"=true) (k4:W.keepIn K (.ref f4)=true)
  (a5:W.nsIn K mainGlobals "all_values"=some (some (.ref f5))) (l5:K.lookup f5=some ⟨oc5,od5,.func (W.fnOf "all_values" "all_values" (xQ gW) (vQ gW) (gQ gW) .none kV5 dc5 pm5 an5 cd5 ct5),sl5⟩) (c5:W.codeIn K cd5 "all_values"=true) (k5:W.keepIn K (.ref f5)=true)
  (a6:W.nsIn K mainGlobals "bits_of"=some (some (.ref f6))) (l6:K.lookup f6=some ⟨oc6,od6,.func (W.fnOf "bits_of" "bits_of" (xQ xY) (vQ xY) (gQ xY) .none kV6 dc6 pm6 an6 cd6 ct6),sl6⟩) (c6:W.codeIn K cd6 "bits_of"=true) (k6:W.keepIn K (.ref f6)=true)
  (a7:W.nsIn K mainGlobals "so_bits"=some (some (.ref f7))) (l7:K.lookup f7=some ⟨oc7,od7,.func (W.fnOf "so_bits" "so_bits" (xQ bY) (vQ bY) (gQ bY) .none kV7 dc7 pm7 an7 cd7 ct7),sl7⟩) (c7:W.codeIn K cd7 "so_bits"=true) (k7:W.keepIn K (.ref f7)=true)
  (a8:W.nsIn K mainGlobals "worth"=some (some (.ref f8))) (l8:K.lookup f8=some ⟨oc8,od8,.func (W.fnOf "worth" "worth" (xQ rK) (vQ rK) (gQ rK) .none kV8 dc8 pm8 an8 cd8 ct8),sl8⟩) (c8:W.codeIn K cd8 "worth"=true) (k8:W.keepIn K (.ref f8)=true)
  (a9:W.nsIn K mainGlobals "named_values"=some (some (.ref f9))) (l9:K.lookup f9=some ⟨oc9,od9,.func (W.fnOf "named_values" "named_values" (xQ yX) (vQ yX) (gQ yX) .none kV9 dc9 pm9 an9 cd9 ct9),sl9⟩) (c9:W.codeIn K cd9 "named_values"=true) (k9:W.keepIn K (.ref f9)=true)
  (a10:W.nsIn K mainGlobals "filled"=some (some (.ref f10))) (l10:K.lookup f10=some ⟨oc10,od10,.func (W.fnOf "filled" "filled" (xQ yY) (vQ yY) (gQ yY) .none kV10 dc10 pm10 an10 cd10 ct10),sl10⟩) (c10:W.codeIn K cd10 "filled"=true) (k10:W.keepIn K (.ref f10)=true)
  (a11:W.nsIn K mainGlobals "holds"=some (some (.ref f11))) (l11:K.lookup f11=some ⟨oc11,od11,.func (W.fnOf "holds" "holds" (xQ aO) (vQ aO) (gQ aO) .none kV11 dc11 pm11 an11 cd11 ct11),sl11⟩) (c11:W.codeIn K cd11 "holds"=true) (k11:W.keepIn K (.ref f11)=true)
  (a12:W.nsIn K mainGlobals "step"=some (some (.ref f12))) (l12:K.lookup f12=some ⟨oc12,od12,.func (W.fnOf "step" "step" (xQ f1Q) (vQ f1Q) (gQ f1Q) .none kV12 dc12 pm12 an12 cd12 ct12),sl12⟩) (c12:W.codeIn K cd12 "step"=true) (k12:W.keepIn K (.ref f12)=true)
  (a13:W.nsIn K mainGlobals "start_of"=some (some (.ref f13))) (l13:K.lookup f13=some ⟨oc13,od13,.func (W.fnOf "start_of" "start_of" (xQ qW) (vQ qW) (gQ qW) .none kV13 dc13 pm13 an13 cd13 ct13),sl13⟩) (c13:W.codeIn K cd13 "start_of"=true) (k13:W.keepIn K (.ref f13)=true)
  (a14:W.nsIn K mainGlobals "is_over"=some (some (.ref f14))) (l14:K.lookup f14=some ⟨oc14,od14,.func (W.fnOf "is_over" "is_over" (xQ zY) (vQ zY) (gQ zY) .none kV14 dc14 pm14 an14 cd14 ct14),sl14⟩) (c14:W.codeIn K cd14 "is_over"=true) (k14:W.keepIn K (.ref f14)=true)
  (a15:W.nsIn K mainGlobals "mark_places"=some (some (.ref f15))) (l15:K.lookup f15=some ⟨oc15,od15,.func (W.fnOf "mark_places" "mark_places" (xQ rJ) (vQ rJ) (gQ rJ) .none kV15 dc15 pm15 an15 cd15 ct15),sl15⟩) (c15:W.codeIn K cd15 "mark_places"=true) (k15:W.keepIn K (.ref f15)=true)
  (a16:W.nsIn K mainGlobals "kind_at"=some (some (.ref f16))) (l16:K.lookup f16=some ⟨oc16,od16,.func (W.fnOf "kind_at" "kind_at" (xQ aK) (vQ aK) (gQ aK) .none kV16 dc16 pm16 an16 cd16 ct16),sl16⟩) (c16:W.codeIn K cd16 "kind_at"=true) (k16:W.keepIn K (.ref f16)=true)
  (a17:W.nsIn K mainGlobals "mark_at"=some (some (.ref f17))) (l17:K.lookup f17=some ⟨oc17,od17,.func (W.fnOf "mark_at" "mark_at" (xQ bK) (vQ bK) (gQ bK) .none kV17 dc17 pm17 an17 cd17 ct17),sl17⟩) (c17:W.codeIn K cd17 "mark_at"=true) (k17:W.keepIn K (.ref f17)=true)
  (a18:W.nsIn K mainGlobals "asked_for"=some (some (.ref f18))) (l18:K.lookup f18=some ⟨oc18,od18,.func (W.fnOf "asked_for" "asked_for" (xQ rW) (vQ rW) (gQ rW) .none kV18 dc18 pm18 an18 cd18 ct18),sl18⟩) (c18:W.codeIn K cd18 "asked_for"=true) (k18:W.keepIn K (.ref f18)=true)
  (a19:W.nsIn K mainGlobals "standings_behind"=some (some (.ref f19))) (l19:K.lookup f19=some ⟨oc19,od19,.func (W.fnOf "standings_behind" "standings_behind" (xQ aX) (vQ aX) (gQ aX) .none kV19 dc19 pm19 an19 cd19 ct19),sl19⟩) (c19:W.codeIn K cd19 "standings_behind"=true) (k19:W.keepIn K (.ref f19)=true)
  (a20:W.nsIn K mainGlobals "marks_met"=some (some (.ref f20))) (l20:K.lookup f20=some ⟨oc20,od20,.func (W.fnOf "marks_met" "marks_met" (xQ sW) (vQ sW) (gQ sW) .none kV20 dc20 pm20 an20 cd20 ct20),sl20⟩) (c20:W.codeIn K cd20 "marks_met"=true) (k20:W.keepIn K (.ref f20)=true)
  (a21:W.nsIn K mainGlobals "next_of"=some (some (.ref f21))) (l21:K.lookup f21=some ⟨oc21,od21,.func (W.fnOf "next_of" "next_of" (xQ eK) (vQ eK) (gQ eK) .none kV21 dc21 pm21 an21 cd21 ct21),sl21⟩) (c21:W.codeIn K cd21 "next_of"=true) (k21:W.keepIn K (.ref f21)=true)
  (a22:W.nsIn K mainGlobals "first_of"=some (some (.ref f22))) (l22:K.lookup f22=some ⟨oc22,od22,.func (W.fnOf "first_of" "first_of" (xQ uV) (vQ uV) (gQ uV) .none kV22 dc22 pm22 an22 cd22 ct22),sl22⟩) (c22:W.codeIn K cd22 "first_of"=true) (k22:W.keepIn K (.ref f22)=true)
  (a23:W.nsIn K mainGlobals "bit_of_each"=some (some (.ref f23))) (l23:K.lookup f23=some ⟨oc23,od23,.func (W.fnOf "bit_of_each" "bit_of_each" (xQ hW) (vQ hW) (gQ hW) .none kV23 dc23 pm23 an23 cd23 ct23),sl23⟩) (c23:W.codeIn K cd23 "bit_of_each"=true) (k23:W.keepIn K (.ref f23)=true)
  (a24:W.nsIn K mainGlobals "put_together"=some (some (.ref f24))) (l24:K.lookup f24=some ⟨oc24,od24,.func (W.fnOf "put_together" "put_together" (xQ kJ) (vQ kJ) (gQ kJ) .none kV24 dc24 pm24 an24 cd24 ct24),sl24⟩) (c24:W.codeIn K cd24 "put_together"=true) (k24:W.keepIn K (.ref f24)=true)
  (a25:W.nsIn K mainGlobals "come_from"=some (some (.ref f25))) (l25:K.lookup f25=some ⟨oc25,od25,.func (W.fnOf "come_from" "come_from" (xQ tW) (vQ tW) (gQ tW) .none kV25 dc25 pm25 an25 cd25 ct25),sl25⟩) (c25:W.codeIn K cd25 "come_from"=true) (k25:W.keepIn K (.ref f25)=true)
  (a26:W.nsIn K mainGlobals "come_behind"=some (some (.ref f26))) (l26:K.lookup f26=some ⟨oc26,od26,.func (W.fnOf "come_behind" "come_behind" (xQ sJ) (vQ sJ) (gQ sJ) .none kV26 dc26 pm26 an26 cd26 ct26),sl26⟩) (c26:W.codeIn K cd26 "come_behind"=true) (k26:W.keepIn K (.ref f26)=true)
  (a27:W.nsIn K mainGlobals "is_right"=some (some (.ref f27))) (l27:K.lookup f27=some ⟨oc27,od27,.func (W.fnOf "is_right" "is_right" (xQ vV) (vQ vV) (gQ vV) .none kV27 dc27 pm27 an27 cd27 ct27),sl27⟩) (c27:W.codeIn K cd27 "is_right"=true) (k27:W.keepIn K (.ref f27)=true)
  (a28:W.nsIn K mainGlobals "greatest"=some (some (.ref f28))) (l28:K.lookup f28=some ⟨oc28,od28,.func (W.fnOf "greatest" "greatest" (xQ vW) (vQ vW) (gQ vW) .none kV28 dc28 pm28 an28 cd28 ct28),sl28⟩) (c28:W.codeIn K cd28 "greatest"=true) (k28:W.keepIn K (.ref f28)=true)
  (a29:W.nsIn K mainGlobals "_law_draws"=some (some (.ref f29))) (l29:K.lookup f29=some ⟨oc29,od29,.func (W.fnOf "_law_draws" "_law_draws" (xQ g1Q) (vQ g1Q) (gQ g1Q) .none kV29 dc29 pm29 an29 cd29 ct29),sl29⟩) (c29:W.codeIn K cd29 "_law_draws"=true) (k29:W.keepIn K (.ref f29)=true)
  (a30:W.nsIn K mainGlobals "_law_boxes"=some (some (.ref f30))) (l30:K.lookup f30=some ⟨oc30,od30,.func (W.fnOf "_law_boxes" "_law_boxes" (xQ h1Q) (vQ h1Q) (gQ h1Q) .none kV30 dc30 pm30 an30 cd30 ct30),sl30⟩) (c30:W.codeIn K cd30 "_law_boxes"=true) (k30:W.keepIn K (.ref f30)=true)
  (a31:W.nsIn K mainGlobals "_law_term"=some (some (.ref f31))) (l31:K.lookup f31=some ⟨oc31,od31,.func (W.fnOf "_law_term" "_law_term" (xQ i5Q) (vQ i5Q) (gQ i5Q) .none kV31 dc31 pm31 an31 cd31 ct31),sl31⟩) (c31:W.codeIn K cd31 "_law_term"=true) (k31:W.keepIn K (.ref f31)=true)
  (a32:W.nsIn K mainGlobals "_law_sum"=some (some (.ref f32))) (l32:K.lookup f32=some ⟨oc32,od32,.func (W.fnOf "_law_sum" "_law_sum" (xQ sSum) (vQ sSum) (gQ sSum) .none kV32 dc32 pm32 an32 cd32 ct32),sl32⟩) (c32:W.codeIn K cd32 "_law_sum"=true) (k32:W.keepIn K (.ref f32)=true)
  (a33:W.nsIn K mainGlobals "_law_statement"=some (some (.ref f33))) (l33:K.lookup f33=some ⟨oc33,od33,.func (W.fnOf "_law_statement" "_law_statement" (xQ wW) (vQ wW) (gQ wW) .none kV33 dc33 pm33 an33 cd33 ct33),sl33⟩) (c33:W.codeIn K cd33 "_law_statement"=true) (k33:W.keepIn K (.ref f33)=true)
  (a34:W.nsIn K mainGlobals "_law_program"=some (some (.ref f34))) (l34:K.lookup f34=some ⟨oc34,od34,.func (W.fnOf "_law_program" "_law_program" (xQ dY) (vQ dY) (gQ dY) .none kV34 dc34 pm34 an34 cd34 ct34),sl34⟩) (c34:W.codeIn K cd34 "_law_program"=true) (k34:W.keepIn K (.ref f34)=true)
  (a35:W.nsIn K mainGlobals "_law_marks"=some (some (.ref f35))) (l35:K.lookup f35=some ⟨oc35,od35,.func (W.fnOf "_law_marks" "_law_marks" (xQ uO) (vQ uO) (gQ uO) .none kV35 dc35 pm35 an35 cd35 ct35),sl35⟩) (c35:W.codeIn K cd35 "_law_marks"=true) (k35:W.keepIn K (.ref f35)=true)
  (a36:W.nsIn K mainGlobals "_law_values"=some (some (.ref f36))) (l36:K.lookup f36=some ⟨oc36,od36,.func (W.fnOf "_law_values" "_law_values" (xQ sK) (vQ sK) (gQ sK) .none kV36 dc36 pm36 an36 cd36 ct36),sl36⟩) (c36:W.codeIn K cd36 "_law_values"=true) (k36:W.keepIn K (.ref f36)=true)
  (a37:W.nsIn K mainGlobals "_law_so"=some (some (.ref f37))) (l37:K.lookup f37=some ⟨oc37,od37,.func (W.fnOf "_law_so" "_law_so" (xQ sSo) (vQ sSo) (gQ sSo) .none kV37 dc37 pm37 an37 cd37 ct37),sl37⟩) (c37:W.codeIn K cd37 "_law_so"=true) (k37:W.keepIn K (.ref f37)=true)
  (a38:W.nsIn K mainGlobals "_law_all_so"=some (some (.ref f38))) (l38:K.lookup f38=some ⟨oc38,od38,.func (W.fnOf "_law_all_so" "_law_all_so" (xQ i1Q) (vQ i1Q) (gQ i1Q) .none kV38 dc38 pm38 an38 cd38 ct38),sl38⟩) (c38:W.codeIn K cd38 "_law_all_so"=true) (k38:W.keepIn K (.ref f38)=true)
  (a39:W.nsIn K mainGlobals "_law_of_one"=some (some (.ref f39))) (l39:K.lookup f39=some ⟨oc39,od39,.func (W.fnOf "_law_of_one" "_law_of_one" (xQ j1Q) (vQ j1Q) (gQ j1Q) .none kV39 dc39 pm39 an39 cd39 ct39),sl39⟩) (c39:W.codeIn K cd39 "_law_of_one"=true) (k39:W.keepIn K (.ref f39)=true)
  (a40:W.nsIn K mainGlobals "_law_saying"=some (some (.ref f40))) (l40:K.lookup f40=some ⟨oc40,od40,.func (W.fnOf "_law_saying" "_law_saying" (xQ bO) (vQ bO) (gQ bO) .none kV40 dc40 pm40 an40 cd40 ct40),sl40⟩) (c40:W.codeIn K cd40 "_law_saying"=true) (k40:W.keepIn K (.ref f40)=true)
  (a41:W.nsIn K mainGlobals "_law_drawn"=some (some (.ref f41))) (l41:K.lookup f41=some ⟨oc41,od41,.func (W.fnOf "_law_drawn" "_law_drawn" (xQ k1Q) (vQ k1Q) (gQ k1Q) .none kV41 dc41 pm41 an41 cd41 ct41),sl41⟩) (c41:W.codeIn K cd41 "_law_drawn"=true) (k41:W.keepIn K (.ref f41)=true)
  (a42:W.nsIn K mainGlobals "_law_kind"=some (some (.ref f42))) (l42:K.lookup f42=some ⟨oc42,od42,.func (W.fnOf "_law_kind" "_law_kind" (xQ j5Q) (vQ j5Q) (gQ j5Q) .none kV42 dc42 pm42 an42 cd42 ct42),sl42⟩) (c42:W.codeIn K cd42 "_law_kind"=true) (k42:W.keepIn K (.ref f42)=true)
  (a43:W.nsIn K mainGlobals "_law_alike"=some (some (.ref f43))) (l43:K.lookup f43=some ⟨oc43,od43,.func (W.fnOf "_law_alike" "_law_alike" (xQ l1Q) (vQ l1Q) (gQ l1Q) .none kV43 dc43 pm43 an43 cd43 ct43),sl43⟩) (c43:W.codeIn K cd43 "_law_alike"=true) (k43:W.keepIn K (.ref f43)=true)
  (a44:W.nsIn K mainGlobals "_law_copied"=some (some (.ref f44))) (l44:K.lookup f44=some ⟨oc44,od44,.func (W.fnOf "_law_copied" "_law_copied" (xQ tK) (vQ tK) (gQ tK) .none kV44 dc44 pm44 an44 cd44 ct44),sl44⟩) (c44:W.codeIn K cd44 "_law_copied"=true) (k44:W.keepIn K (.ref f44)=true)
  (a45:W.nsIn K mainGlobals "_law_ways"=some (some (.ref f45))) (l45:K.lookup f45=some ⟨oc45,od45,.func (W.fnOf "_law_ways" "_law_ways" (xQ k5Q) (vQ k5Q) (gQ k5Q) .none kV45 dc45 pm45 an45 cd45 ct45),sl45⟩) (c45:W.codeIn K cd45 "_law_ways"=true) (k45:W.keepIn K (.ref f45)=true)
  (a46:W.nsIn K mainGlobals "_law_keep"=some (some (.ref f46))) (l46:K.lookup f46=some ⟨oc46,od46,.func (W.fnOf "_law_keep" "_law_keep" (xQ g3Q) (vQ g3Q) (gQ g3Q) .none kV46 dc46 pm46 an46 cd46 ct46),sl46⟩) (c46:W.codeIn K cd46 "_law_keep"=true) (k46:W.keepIn K (.ref f46)=true)
  (a47:W.nsIn K mainGlobals "_law_left"=some (some (.ref f47))) (l47:K.lookup f47=some ⟨oc47,od47,.func (W.fnOf "_law_left" "_law_left" (xQ m0Q) (vQ m0Q) (gQ m0Q) .none kV47 dc47 pm47 an47 cd47 ct47),sl47⟩) (c47:W.codeIn K cd47 "_law_left"=true) (k47:W.keepIn K (.ref f47)=true)
  (a48:W.nsIn K mainGlobals "law"=some (some (.ref f48))) (l48:K.lookup f48=some ⟨oc48,od48,.func (W.fnOf "law" "law" (xQ sLaw) (vQ sLaw) (gQ sLaw) .none kV48 dc48 pm48 an48 cd48 ct48),sl48⟩) (c48:W.codeIn K cd48 "law"=true) (k48:W.keepIn K (.ref f48)=true)
  (g1:W.nsIn K mainGlobals "OF_ONE_BOX"=some (some (.ref gr1))) (gl1:K.lookup gr1=some ⟨.type "tuple",go1,.seq #[.str "is" gk1_0,.str "from" gk1_1,.str "to" gk1_2,.str "rest" gk1_3,.str "either" gk1_4,.str "never" gk1_5] gn1,gs1⟩)
  (ca1:W.nsIn K mainGlobals "Checker"=some (some (.ref C1))) (pg1:W.plainGet K C1 Str.empty=true) (hd1:W.hasDictIn K C1=true) (po1:W.plainOver K C1=true) (sa1:W.findIn K (.ref C1) "__setattr__"=some (some (.builtin "object.__setattr__"))) (mk1:W.makesIn K C1=true) (kc1:W.keepIn K (.ref C1)=true)
  (na1_1:W.findIn K (.ref C1) "every"=some none)
  (na1_2:W.findIn K (.ref C1) "full"=some none)
  (na1_3:W.findIn K (.ref C1) "first"=some none)
  (na1_4:W.findIn K (.ref C1) "nexts"=some none)
  (na1_5:W.findIn K (.ref C1) "known"=some none)
  (ma1_1:W.findIn K (.ref C1) "__init__"=some (some (.ref mf1_1))) (mi1_1:W.isFn K (.ref mf1_1)=true) (ml1_1:K.lookup mf1_1=some ⟨moc1_1,mod1_1,.func (W.fnOf "__init__" "Checker.__init__" (xQ sO) (vQ sO) (gQ sO) .none mkV1_1 mdc1_1 mpm1_1 man1_1 mcd1_1 mct1_1),msl1_1⟩) (mc1_1:W.codeIn K mcd1_1 "Checker.__init__"=true) (mk1_1:W.keepIn K (.ref mf1_1)=true)
  (ma1_2:W.findIn K (.ref C1) "so_of"=some (some (.ref mf1_2))) (mi1_2:W.isFn K (.ref mf1_2)=true) (ml1_2:K.lookup mf1_2=some ⟨moc1_2,mod1_2,.func (W.fnOf "so_of" "Checker.so_of" (xQ tO) (vQ tO) (gQ tO) .none mkV1_2 mdc1_2 mpm1_2 man1_2 mcd1_2 mct1_2),msl1_2⟩) (mc1_2:W.codeIn K mcd1_2 "Checker.so_of"=true) (mk1_2:W.keepIn K (.ref mf1_2)=true)
  (ma1_3:W.findIn K (.ref C1) "so_of_all"=some (some (.ref mf1_3))) (mi1_3:W.isFn K (.ref mf1_3)=true) (ml1_3:K.lookup mf1_3=some ⟨moc1_3,mod1_3,.func (W.fnOf "so_of_all" "Checker.so_of_all" (xQ uW) (vQ uW) (gQ uW) .none mkV1_3 mdc1_3 mpm1_3 man1_3 mcd1_3 mct1_3),msl1_3⟩) (mc1_3:W.codeIn K mcd1_3 "Checker.so_of_all"=true) (mk1_3:W.keepIn K (.ref mf1_3)=true)
  (ma1_4:W.findIn K (.ref C1) "come_to"=some (some (.ref mf1_4))) (mi1_4:W.isFn K (.ref mf1_4)=true) (ml1_4:K.lookup mf1_4=some ⟨moc1_4,mod1_4,.func (W.fnOf "come_to" "Checker.come_to" (xQ cY) (vQ cY) (gQ cY) .none mkV1_4 mdc1_4 mpm1_4 man1_4 mcd1_4 mct1_4),msl1_4⟩) (mc1_4:W.codeIn K mcd1_4 "Checker.come_to"=true) (mk1_4:W.keepIn K (.ref mf1_4)=true)
  (ma1_5:W.findIn K (.ref C1) "unbroken"=some (some (.ref mf1_5))) (mi1_5:W.isFn K (.ref mf1_5)=true) (ml1_5:K.lookup mf1_5=some ⟨moc1_5,mod1_5,.func (W.fnOf "unbroken" "Checker.unbroken" (xQ oJ) (vQ oJ) (gQ oJ) .none mkV1_5 mdc1_5 mpm1_5 man1_5 mcd1_5 mct1_5),msl1_5⟩) (mc1_5:W.codeIn K mcd1_5 "Checker.unbroken"=true) (mk1_5:W.keepIn K (.ref mf1_5)=true)
  (z1:W.nsIn K mainGlobals "abs"=some none) (z2:W.nsIn K mainGlobals "bool"=some none) (z3:W.nsIn K mainGlobals "dict"=some none) (z4:W.nsIn K mainGlobals "enumerate"=some none) (z5:W.nsIn K mainGlobals "int"=some none) (z6:W.nsIn K mainGlobals "isinstance"=some none) (z7:W.nsIn K mainGlobals "len"=some none) (z8:W.nsIn K mainGlobals "list"=some none) (z9:W.nsIn K mainGlobals "max"=some none) (z10:W.nsIn K mainGlobals "min"=some none) (z11:W.nsIn K mainGlobals "range"=some none) (z12:W.nsIn K mainGlobals "reversed"=some none) (z13:W.nsIn K mainGlobals "sorted"=some none) (z14:W.nsIn K mainGlobals "str"=some none) (z15:W.nsIn K mainGlobals "sum"=some none) (z16:W.nsIn K mainGlobals "tuple"=some none) (z17:W.nsIn K mainGlobals "zip"=some none) :
  ∃ fd:FuncData,(∀ (s:Shared) (v:Value),BindsTo s fd ⟨[v],[]⟩ [("script",v)])/\∀ base:Heap,K.In base->base.Ns mainGlobals mg->gU l.prog w K mg base CX0 24 fa fd ["script"] (o1Z K):=by
 have e:=hfa.symm.trans (W.mg_of X G a48)
 cases e
 have h_is_so_of_one:Has K mg "is_so_of_one" eW ["saying","a"]:=Has.mk X G a1 l1 c1 k1 fun _ _ _ _ _ _ us hl=>by obtain ⟨_,_,rfl⟩:=ln2 hl; rfl
 have h_is_so_of_two:Has K mg "is_so_of_two" fW ["saying","a","b"]:=Has.mk X G a2 l2 c2 k2 fun _ _ _ _ _ _ us hl=>by obtain ⟨_,_,_,rfl⟩:=ln3 hl; rfl
 have h_is_so:Has K mg "is_so" e1Q ["saying","values"]:=Has.mk X G a3 l3 c3 k3 fun _ _ _ _ _ _ us hl=>by obtain ⟨_,_,rfl⟩:=ln2 hl; rfl
 have h_lengthened:Has K mg "lengthened" fJ ["some","box"]:=Has.mk X G a4 l4 c4 k4 fun _ _ _ _ _ _ us hl=>by obtain ⟨_,_,rfl⟩:=ln2 hl; rfl
 have h_all_values:Has K mg "all_values" gW ["program"]:=Has.mk X G a5 l5 c5 k5 fun _ _ _ _ _ _ us hl=>by obtain ⟨_,rfl⟩:=ln1 hl; rfl
 have h_bits_of:Has K mg "bits_of" xY ["truths"]:=Has.mk X G a6 l6 c6 k6 fun _ _ _ _ _ _ us hl=>by obtain ⟨_,rfl⟩:=ln1 hl; rfl
 have h_so_bits:Has K mg "so_bits" bY ["saying","every"]:=Has.mk X G a7 l7 c7 k7 fun _ _ _ _ _ _ us hl=>by obtain ⟨_,_,rfl⟩:=ln2 hl; rfl
 have h_worth:Has K mg "worth" rK ["e","values"]:=Has.mk X G a8 l8 c8 k8 fun _ _ _ _ _ _ us hl=>by obtain ⟨_,_,rfl⟩:=ln2 hl; rfl
 have h_named_values:Has K mg "named_values" yX ["program","values"]:=Has.mk X G a9 l9 c9 k9 fun _ _ _ _ _ _ us hl=>by obtain ⟨_,_,rfl⟩:=ln2 hl; rfl
 have h_filled:Has K mg "filled" yY ["program","standing","place","number"]:=Has.mk X G a10 l10 c10 k10 fun _ _ _ _ _ _ us hl=>by obtain ⟨_,_,_,_,rfl⟩:=ln4 hl; rfl
 have h_holds:Has K mg "holds" aO ["program","statement","values"]:=Has.mk X G a11 l11 c11 k11 fun _ _ _ _ _ _ us hl=>by obtain ⟨_,_,_,rfl⟩:=ln3 hl; rfl
 have h_step:Has K mg "step" f1Q ["program","standing","number"]:=Has.mk X G a12 l12 c12 k12 fun _ _ _ _ _ _ us hl=>by obtain ⟨_,_,_,rfl⟩:=ln3 hl; rfl
 have h_start_of:Has K mg "start_of" qW ["program"]:=Has.mk X G a13 l13 c13 k13 fun _ _ _ _ _ _ us hl=>by obtain ⟨_,rfl⟩:=ln1 hl; rfl
 have h_is_over:Has K mg "is_over" zY ["program","standing"]:=Has.mk X G a14 l14 c14 k14 fun _ _ _ _ _ _ us hl=>by obtain ⟨_,_,rfl⟩:=ln2 hl; rfl
 have h_mark_places:Has K mg "mark_places" rJ ["rows"]:=Has.mk X G a15 l15 c15 k15 fun _ _ _ _ _ _ us hl=>by obtain ⟨_,rfl⟩:=ln1 hl; rfl
 have h_kind_at:Has K mg "kind_at" aK ["program","standing"]:=Has.mk X G a16 l16 c16 k16 fun _ _ _ _ _ _ us hl=>by obtain ⟨_,_,rfl⟩:=ln2 hl; rfl
 have h_mark_at:Has K mg "mark_at" bK ["program","standing"]:=Has.mk X G a17 l17 c17 k17 fun _ _ _ _ _ _ us hl=>by obtain ⟨_,_,rfl⟩:=ln2 hl; rfl
 have h_asked_for:Has K mg "asked_for" rW ["program","standing"]:=Has.mk X G a18 l18 c18 k18 fun _ _ _ _ _ _ us hl=>by obtain ⟨_,_,rfl⟩:=ln2 hl; rfl
 have h_standings_behind:Has K mg "standings_behind" aX ["program","standing"]:=Has.mk X G a19 l19 c19 k19 fun _ _ _ _ _ _ us hl=>by obtain ⟨_,_,rfl⟩:=ln2 hl; rfl
 have h_marks_met:Has K mg "marks_met" sW ["program","standings"]:=Has.mk X G a20 l20 c20 k20 fun _ _ _ _ _ _ us hl=>by obtain ⟨_,_,rfl⟩:=ln2 hl; rfl
 have h_next_of:Has K mg "next_of" eK ["program","mark","values"]:=Has.mk X G a21 l21 c21 k21 fun _ _ _ _ _ _ us hl=>by obtain ⟨_,_,_,rfl⟩:=ln3 hl; rfl
 have h_first_of:Has K mg "first_of" uV ["program"]:=Has.mk X G a22 l22 c22 k22 fun _ _ _ _ _ _ us hl=>by obtain ⟨_,rfl⟩:=ln1 hl; rfl
 have h_bit_of_each:Has K mg "bit_of_each" hW ["every"]:=Has.mk X G a23 l23 c23 k23 fun _ _ _ _ _ _ us hl=>by obtain ⟨_,rfl⟩:=ln1 hl; rfl
 have h_put_together:Has K mg "put_together" kJ ["come","more"]:=Has.mk X G a24 l24 c24 k24 fun _ _ _ _ _ _ us hl=>by obtain ⟨_,_,rfl⟩:=ln2 hl; rfl
 have h_come_from:Has K mg "come_from" tW ["program","standing","bits","behind"]:=Has.mk X G a25 l25 c25 k25 fun _ _ _ _ _ _ us hl=>by obtain ⟨_,_,_,_,rfl⟩:=ln4 hl; rfl
 have h_come_behind:Has K mg "come_behind" sJ ["program","every","bits"]:=Has.mk X G a26 l26 c26 k26 fun _ _ _ _ _ _ us hl=>by obtain ⟨_,_,_,rfl⟩:=ln3 hl; rfl
 have h_is_right:Has K mg "is_right" vV ["program","paper"]:=Has.mk X G a27 l27 c27 k27 fun _ _ _ _ _ _ us hl=>by obtain ⟨_,_,rfl⟩:=ln2 hl; rfl
 have h_greatest:Has K mg "greatest" vW ["program","paper"]:=Has.mk X G a28 l28 c28 k28 fun _ _ _ _ _ _ us hl=>by obtain ⟨_,_,rfl⟩:=ln2 hl; rfl
 have h__law_draws:Has K mg "_law_draws" g1Q ["script","many"]:=Has.mk X G a29 l29 c29 k29 fun _ _ _ _ _ _ us hl=>by obtain ⟨_,_,rfl⟩:=ln2 hl; rfl
 have h__law_boxes:Has K mg "_law_boxes" h1Q ["d"]:=Has.mk X G a30 l30 c30 k30 fun _ _ _ _ _ _ us hl=>by obtain ⟨_,rfl⟩:=ln1 hl; rfl
 have h__law_term:Has K mg "_law_term" i5Q ["x","boxes"]:=Has.mk X G a31 l31 c31 k31 fun _ _ _ _ _ _ us hl=>by obtain ⟨_,_,rfl⟩:=ln2 hl; rfl
 have h__law_sum:Has K mg "_law_sum" sSum ["x","y","boxes"]:=Has.mk X G a32 l32 c32 k32 fun _ _ _ _ _ _ us hl=>by obtain ⟨_,_,_,rfl⟩:=ln3 hl; rfl
 have h__law_statement:Has K mg "_law_statement" wW ["kind","four","boxes","spots","k","turn"]:=Has.mk X G a33 l33 c33 k33 fun _ _ _ _ _ _ us hl=>by obtain ⟨_,_,_,_,_,_,rfl⟩:=ln6 hl; rfl
 have h__law_program:Has K mg "_law_program" dY ["d"]:=Has.mk X G a34 l34 c34 k34 fun _ _ _ _ _ _ us hl=>by obtain ⟨_,rfl⟩:=ln1 hl; rfl
 have h__law_marks:Has K mg "_law_marks" uO ["program"]:=Has.mk X G a35 l35 c35 k35 fun _ _ _ _ _ _ us hl=>by obtain ⟨_,rfl⟩:=ln1 hl; rfl
 have h__law_values:Has K mg "_law_values" sK ["boxes"]:=Has.mk X G a36 l36 c36 k36 fun _ _ _ _ _ _ us hl=>by obtain ⟨_,rfl⟩:=ln1 hl; rfl
 have h__law_so:Has K mg "_law_so" sSo ["saying","values"]:=Has.mk X G a37 l37 c37 k37 fun _ _ _ _ _ _ us hl=>by obtain ⟨_,_,rfl⟩:=ln2 hl; rfl
 have h__law_all_so:Has K mg "_law_all_so" i1Q ["some","values"]:=Has.mk X G a38 l38 c38 k38 fun _ _ _ _ _ _ us hl=>by obtain ⟨_,_,rfl⟩:=ln2 hl; rfl
 have h__law_of_one:Has K mg "_law_of_one" j1Q ["form","a","box","y"]:=Has.mk X G a39 l39 c39 k39 fun _ _ _ _ _ _ us hl=>by obtain ⟨_,_,_,_,rfl⟩:=ln4 hl; rfl
 have h__law_saying:Has K mg "_law_saying" bO ["x","y","boxes"]:=Has.mk X G a40 l40 c40 k40 fun _ _ _ _ _ _ us hl=>by obtain ⟨_,_,_,rfl⟩:=ln3 hl; rfl
 have h__law_drawn:Has K mg "_law_drawn" k1Q ["d","spot","most","program"]:=Has.mk X G a41 l41 c41 k41 fun _ _ _ _ _ _ us hl=>by obtain ⟨_,_,_,_,rfl⟩:=ln4 hl; rfl
 have h__law_kind:Has K mg "_law_kind" j5Q ["saying"]:=Has.mk X G a42 l42 c42 k42 fun _ _ _ _ _ _ us hl=>by obtain ⟨_,rfl⟩:=ln1 hl; rfl
 have h__law_alike:Has K mg "_law_alike" l1Q ["found","due"]:=Has.mk X G a43 l43 c43 k43 fun _ _ _ _ _ _ us hl=>by obtain ⟨_,_,rfl⟩:=ln2 hl; rfl
 have h__law_copied:Has K mg "_law_copied" tK ["paper"]:=Has.mk X G a44 l44 c44 k44 fun _ _ _ _ _ _ us hl=>by obtain ⟨_,rfl⟩:=ln1 hl; rfl
 have h__law_ways:Has K mg "_law_ways" k5Q ["program"]:=Has.mk X G a45 l45 c45 k45 fun _ _ _ _ _ _ us hl=>by obtain ⟨_,rfl⟩:=ln1 hl; rfl
 have h__law_keep:Has K mg "_law_keep" g3Q ["left","coming"]:=Has.mk X G a46 l46 c46 k46 fun _ _ _ _ _ _ us hl=>by obtain ⟨_,_,rfl⟩:=ln2 hl; rfl
 have h__law_left:Has K mg "_law_left" m0Q ["program","paper"]:=Has.mk X G a47 l47 c47 k47 fun _ _ _ _ _ _ us hl=>by obtain ⟨_,_,rfl⟩:=ln2 hl; rfl
 have cl_Checker:Cls K C1:=⟨pg1,hd1,po1,sa1⟩
 have F_Checker___init__:=kU (st:=sO) ml1_1 mc1_1 mk1_1
 have b_Checker___init__:=F_Checker___init__.binds (ps:=["self","program"]) fun _ _ _ _ _ _ us hl=>by obtain ⟨_,_,rfl⟩:=ln2 hl; rfl
 have mk_Checker:Mk K C1 mf1_1:=⟨mk1,ma1_1,mi1_1,kc1⟩
 have F_Checker_so_of:=kU (st:=tO) ml1_2 mc1_2 mk1_2
 have b_Checker_so_of:=F_Checker_so_of.binds (ps:=["self","saying"]) fun _ _ _ _ _ _ us hl=>by obtain ⟨_,_,rfl⟩:=ln2 hl; rfl
 have hm_Checker_so_of:HasM K C1 "so_of" "Checker.so_of" tO ["self","saying"]:=⟨mf1_2,_,F_Checker_so_of,b_Checker_so_of,⟨ma1_2,mi1_2,mk1_2⟩⟩
 have F_Checker_so_of_all:=kU (st:=uW) ml1_3 mc1_3 mk1_3
 have b_Checker_so_of_all:=F_Checker_so_of_all.binds (ps:=["self","some"]) fun _ _ _ _ _ _ us hl=>by obtain ⟨_,_,rfl⟩:=ln2 hl; rfl
 have hm_Checker_so_of_all:HasM K C1 "so_of_all" "Checker.so_of_all" uW ["self","some"]:=⟨mf1_3,_,F_Checker_so_of_all,b_Checker_so_of_all,⟨ma1_3,mi1_3,mk1_3⟩⟩
 have F_Checker_come_to:=kU (st:=cY) ml1_4 mc1_4 mk1_4
 have b_Checker_come_to:=F_Checker_come_to.binds (ps:=["self","paper"]) fun _ _ _ _ _ _ us hl=>by obtain ⟨_,_,rfl⟩:=ln2 hl; rfl
 have hm_Checker_come_to:HasM K C1 "come_to" "Checker.come_to" cY ["self","paper"]:=⟨mf1_4,_,F_Checker_come_to,b_Checker_come_to,⟨ma1_4,mi1_4,mk1_4⟩⟩
 have F_Checker_unbroken:=kU (st:=oJ) ml1_5 mc1_5 mk1_5
 have b_Checker_unbroken:=F_Checker_unbroken.binds (ps:=["self","paper"]) fun _ _ _ _ _ _ us hl=>by obtain ⟨_,_,rfl⟩:=ln2 hl; rfl
 have hm_Checker_unbroken:HasM K C1 "unbroken" "Checker.unbroken" oJ ["self","paper"]:=⟨mf1_5,_,F_Checker_unbroken,b_Checker_unbroken,⟨ma1_5,mi1_5,mk1_5⟩⟩
 have mg_Checker:=W.mg_of X G ca1
 have F:=kU (st:=sLaw) l48 c48 k48
 have B:Blt mg:=⟨W.mg_none_of X G z1,W.mg_none_of X G z2,W.mg_none_of X G z3,W.mg_none_of X G z4,W.mg_none_of X G z5,W.mg_none_of X G z6,W.mg_none_of X G z7,W.mg_none_of X G z8,W.mg_none_of X G z9,W.mg_none_of X G z10,W.mg_none_of X G z11,W.mg_none_of X G z12,W.mg_none_of X G z13,W.mg_none_of X G z14,W.mg_none_of X G z15,W.mg_none_of X G z16,W.mg_none_of X G z17⟩
 have gl:Glb K mg:=⟨⟨gr1,W.mg_of X G g1,fun H=>.inr ⟨_,_,_,gl1,rfl,rfl,(by show 6<=sizeLine; decide),Paired.cons ⟨_,rfl⟩ (Paired.cons ⟨_,rfl⟩ (Paired.cons ⟨_,rfl⟩ (Paired.cons ⟨_,rfl⟩ (Paired.cons ⟨_,rfl⟩ (Paired.cons ⟨_,rfl⟩ (Paired.nil))))))⟩⟩⟩
 refine ⟨W.fnOf "law" "law" (xQ sLaw) (vQ sLaw) (gQ sLaw) .none kV48 dc48 pm48 an48 cd48 ct48,fun s v=>.of_eq rfl,fun base _ _=>?_⟩
 have T:TxC K mg C1:=⟨cl_Checker,na1_1,na1_2,na1_3,na1_4,na1_5,mg_Checker⟩
 have cWo:=m5Q (P:=l.prog) (w:=w) (base:=base) h_worth 16
 have cNa:=w5Z (P:=l.prog) (w:=w) (base:=base) h_named_values B
 have cFi:=v2Z (P:=l.prog) (w:=w) (base:=base) h_filled
 have cHo:=z5Z h_holds cNa cWo
 have cSt:=s8Z h_step cFi cNa cWo cHo
 have cOver:=x2Z (P:=l.prog) (w:=w) (base:=base) h_is_over B
 have cKind:=y2Z h_kind_at cOver
 have cMark:=z2Z (P:=l.prog) (w:=w) (base:=base) h_mark_at
 have cAsk:=d8Q (P:=l.prog) (w:=w) (base:=base) h_asked_for B
 have cBeh:=a3Z h_standings_behind cKind cAsk cSt
 have cFrom:=g8Q h_come_from cKind cMark
 have cPut:=fun N=>w1X (P:=l.prog) (w:=w) (base:=base) (N:=N) h_put_together
 have cCB:=o4Q h_come_behind B cBeh cFrom cPut
 have cAll:=k6Q h_all_values (n4Q (P:=l.prog) (w:=w) (base:=base) h_lengthened B)
 have cBits:=s2Z (P:=l.prog) (w:=w) (base:=base) h_bits_of
 have cIs:=p8Z h_is_so gl (q5Z (P:=l.prog) (w:=w) (base:=base) h_is_so_of_one) (r5Z h_is_so_of_two)
 have cSo:=a9Z hm_Checker_so_of T (t2Z h_so_bits cIs cBits)
 have cSA:=a0Z hm_Checker_so_of_all T cSo
 have cCT:=j3Z hm_Checker_come_to B T cSA cPut
 have cUn:=l8Q hm_Checker_unbroken T cCT cSo
 have cIn:=t6Z F_Checker___init__ B T cAll (d6Z h_bit_of_each B) cCB cBits cFrom (u3Q h_start_of B) (nO h_mark_places B)
 have cR:=b0Z h_is_right T mk_Checker b_Checker___init__ cIn cUn
 have cG:=n8Q h_greatest T mk_Checker b_Checker___init__ cIn cUn
 have cM:=m3Z (P:=l.prog) (w:=w) (base:=base) h__law_marks
 have cW:=x6Z h__law_drawn B cM (y9Q h__law_saying B (k6Z h__law_of_one))
 have cT:=i9Z (P:=l.prog) (w:=w) (base:=base) h__law_term B
 have cSm:=a2X h__law_sum cT
 have cPr:=g0Z h__law_program B (g3Z h__law_boxes B) (v6Q h__law_statement B cT cSm)
 have cLS:=x1X (P:=l.prog) (w:=w) (base:=base) h__law_so
 have cAS:=a7Z h__law_all_so cLS
 have cMM:=i8Q h_marks_met B cKind cMark cBeh
 have cNx:=o3Z h_next_of B (nO h_mark_places B) cBeh cMM
 have cF1:=c0Z h_first_of (u3Q h_start_of B) cMM
 have cWy:=f9Z h__law_ways cM (n3Z h__law_values B) cNx
 have cKp:=m9Z h__law_keep cLS
 have cLf:=o9Z h__law_left B cF1 cWy cAS cKp
 exact c2X F B (j6Z h__law_draws B) cPr cW cLf (i3Z h__law_copied B) cR cG (i7Z h__law_alike B (p9Z h__law_kind B))
theorem walk {l:W.OpenLaw} {q:Program} {loose:List Str} {XP:(Str->Option Value)->Heap->Prop} {YP:World->Heap->Prop} {d:DefRec} {K:Params->W.Frag} (hn:l.most=some 63) (hdf:d.params.defaults=[])
  (hY:∀ (w:World) (h:Heap),YP w h->(K w.params).In h)
  (F:∀ (w:World) (mg:Str->Option Value) (fa:Addr) (h:Heap),(K w.params).In h->h.Ns mainGlobals mg->mg d.name=some (.ref fa) ->
   ∃ fd:FuncData,(∀ (s:Shared) (u:Value),BindsTo s fd ⟨[u],[]⟩ [("script",u)])/\∀ base:Heap,(K w.params).In base->base.Ns mainGlobals mg->gU l.prog w (K w.params) mg base CX0 24 fa fd ["script"] (o1Z (K w.params))) :
  W.WalkO q loose XP YP l.row.toRowW d [] (fun f vs=>PySem.call f vs):=
 L2.walk_of (n:=63) (k:=24) (x:="script") (CX:=fun _=>CX0) (sp:=fun w=>o1Z (K w.params)) hn (by decide) hdf ⟨rfl,by decide,by decide⟩ hY F (fun _ _ a ns hl _ hS=>⟨a,ns,rfl,hS,hl,fun _=>rfl⟩) fun _ _ _ _ _ z=>z
end K51
open PySem PySem.W PyProof.Rows
noncomputable def PySem.W.Fast.tw90343872475197607:Type:=PySem.Params
theorem PySem.W.Fast.te90343872475197607:PySem.Params=PySem.W.Fast.tw90343872475197607:=rfl
noncomputable def PySem.W.Fast.tw15641715125113993005:Type:=PySem.Expr
theorem PySem.W.Fast.te15641715125113993005:PySem.Expr=PySem.W.Fast.tw15641715125113993005:=rfl
set_option maxRecDepth 100000 in
set_option maxHeartbeats 0 in
theorem PySem.Challenge.cw_sayswho_k51_whole_greatest_by_ways_holds : PySem.Challenge.rw_sayswho_k51_whole_greatest_by_ways.Holds := by
 w_on; o_law; k_head; (case hw=>w_witness2)
 k_fill
 refine K51.walk (l:=PySem.Challenge.rw_sayswho_k51_whole_greatest_by_ways) rfl rfl (fun w h Y=>W.kIn_of Y) ?F
 case F =>
  intro w mg fa h KX G hmg
  refine' K51.all_mk KX G hmg ?a1 ?l1 ?c1 ?k1 ?a2 ?l2 ?c2 ?k2 ?a3 ?l3 ?c3 ?k3 ?a4 ?l4 ?c4 ?k4 ?a5 ?l5 ?c5 ?k5 ?a6 ?l6 ?c6 ?k6 ?a7 ?l7 ?c7 ?k7 ?a8 ?l8 ?c8 ?k8 ?a9 ?l9 ?c9 ?k9 ?a10 ?l10 ?c10 ?k10 ?a11 ?l11 ?c11 ?k11 ?a12 ?l12 ?c12 ?k12 ?a13 ?l13 ?c13 ?k13 ?a14 ?l14 ?c14 ?k14 ?a15 ?l15 ?c15 ?k15 ?a16 ?l16 ?c16 ?k16 ?a17 ?l17 ?c17 ?k17 ?a18 ?l18 ?c18 ?k18 ?a19 ?l19 ?c19 ?k19 ?a20 ?l20 ?c20 ?k20 ?a21 ?l21 ?c21 ?k21 ?a22 ?l22 ?c22 ?k22 ?a23 ?l23 ?c23 ?k23 ?a24 ?l24 ?c24 ?k24 ?a25 ?l25 ?c25 ?k25 ?a26 ?l26 ?c26 ?k26 ?a27 ?l27 ?c27 ?k27 ?a28 ?l28 ?c28 ?k28 ?a29 ?l29 ?c29 ?k29 ?a30 ?l30 ?c30 ?k30 ?a31 ?l31 ?c31 ?k31 ?a32 ?l32 ?c32 ?k32 ?a33 ?l33 ?c33 ?k33 ?a34 ?l34 ?c34 ?k34 ?a35 ?l35 ?c35 ?k35 ?a36 ?l36 ?c36 ?k36 ?a37 ?l37 ?c37 ?k37 ?a38 ?l38 ?c38 ?k38 ?a39 ?l39 ?c39 ?k39 ?a40 ?l40 ?c40 ?k40 ?a41 ?l41 ?c41 ?k41 ?a42 ?l42 ?c42 ?k42 ?a43 ?l43 ?c43 ?k43 ?a44 ?l44 ?c44 ?k44 ?a45 ?l45 ?c45 ?k45 ?a46 ?l46 ?c46 ?k46 ?a47 ?l47 ?c47 ?k47 ?a48 ?l48 ?c48 ?k48 ?g1 ?gl1    ?ca1 ?pg1 ?hd1 ?po1 ?sa1 ?mk1 ?kc1 ?na1_1 ?na1_2 ?na1_3 ?na1_4 ?na1_5 ?ma1_1 ?mi1_1 ?ml1_1 ?mc1_1 ?mk1_1 ?ma1_2 ?mi1_2 ?ml1_2 ?mc1_2 ?mk1_2 ?ma1_3 ?mi1_3 ?ml1_3 ?mc1_3 ?mk1_3 ?ma1_4 ?mi1_4 ?ml1_4 ?mc1_4 ?mk1_4 ?ma1_5 ?mi1_5 ?ml1_5 ?mc1_5 ?mk1_5     ?z1 ?z2 ?z3 ?z4 ?z5 ?z6 ?z7 ?z8 ?z9 ?z10 ?z11 ?z12 ?z13 ?z14 ?z15 ?z16 ?z17
  (case a1 | l1 | c1 | k1 | a2 | l2 | c2 | k2 | a3 | l3 | c3 | k3 | a4 | l4 | c4 | k4 | a5 | l5 | c5 | k5 | a6 | l6 | c6 | k6 | a7 | l7 | c7 | k7 | a8 | l8 | c8 | k8 | a9 | l9 | c9 | k9 | a10 | l10 | c10 | k10 | a11 | l11 | c11 | k11 | a12 | l12 | c12 | k12 | a13 | l13 | c13 | k13 | a14 | l14 | c14 | k14 | a15 | l15 | c15 | k15 | a16 | l16 | c16 | k16 | a17 | l17 | c17 | k17 | a18 | l18 | c18 | k18 | a19 | l19 | c19 | k19 | a20 | l20 | c20 | k20 | a21 | l21 | c21 | k21 | a22 | l22 | c22 | k22 | a23 | l23 | c23 | k23 | a24 | l24 | c24 | k24 | a25 | l25 | c25 | k25 | a26 | l26 | c26 | k26 | a27 | l27 | c27 | k27 | a28 | l28 | c28 | k28 | a29 | l29 | c29 | k29 | a30 | l30 | c30 | k30 | a31 | l31 | c31 | k31 | a32 | l32 | c32 | k32 | a33 | l33 | c33 | k33 | a34 | l34 | c34 | k34 | a35 | l35 | c35 | k35 | a36 | l36 | c36 | k36 | a37 | l37 | c37 | k37 | a38 | l38 | c38 | k38 | a39 | l39 | c39 | k39 | a40 | l40 | c40 | k40 | a41 | l41 | c41 | k41 | a42 | l42 | c42 | k42 | a43 | l43 | c43 | k43 | a44 | l44 | c44 | k44 | a45 | l45 | c45 | k45 | a46 | l46 | c46 | k46 | a47 | l47 | c47 | k47 | a48 | l48 | c48 | k48 | g1 | gl1 | ca1 | pg1 | hd1 | po1 | sa1 | mk1 | kc1 | na1_1 | na1_2 | na1_3 | na1_4 | na1_5 | ma1_1 | mi1_1 | ml1_1 | mc1_1 | mk1_1 | ma1_2 | mi1_2 | ml1_2 | mc1_2 | mk1_2 | ma1_3 | mi1_3 | ml1_3 | mc1_3 | mk1_3 | ma1_4 | mi1_4 | ml1_4 | mc1_4 | mk1_4 | ma1_5 | mi1_5 | ml1_5 | mc1_5 | mk1_5 | z1 | z2 | z3 | z4 | z5 | z6 | z7 | z8 | z9 | z10 | z11 | z12 | z13 | z14 | z15 | z16 | z17=>k_is)
#print axioms PySem.Challenge.cw_sayswho_k51_whole_greatest_by_ways_holds
