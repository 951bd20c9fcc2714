import PyProof.Rows.All
import Wide.All
import OpenK.AllK
import Wide.FinOn
import PyProof.EqAt
import PyProof.EqKinds
import PyProof.TupleCall
import KE.BitLaws
import Open.SpecLaws
import KE.OsHead
import KE.OsGo
import PyProof.ExcInit
import PyProof.InstStoreFacts
import PyProof.ExcAttrAll.ValueError
import PyProof.ExcBaseAll.ValueError
import KE.KDictSum
import KE.KDictOf
import PyWqazat
import TrSpec
import PySem.Challenge.RW_pentrail_s01_answers
set_option compiler.extract_closed false
set_option bootstrap.genMatcherCode false
set_option Elab.async false
set_option linter.all false
set_option maxRecDepth 100000
set_option maxHeartbeats 4000000
local macro_rules | `(tactic| omega)=>`(tactic| lia)
abbrev Fg:=PySem.W.Frag
abbrev RL:=List (Int×List Int)
namespace L2
open PySem PySem.Spec PyProof.Rows
abbrev _root_.Y1:=Value->Shared->Prop
abbrev _root_.Y2:=List (Addr×Obj)
abbrev _root_.Y3:=Str->Option Value
abbrev Key:=Sum Int Str
def zJW:Key->Value->Bool
 | .inl k,v=>Value.isInt k v
 | .inr x,v=>Value.isStrOf x v
def zZK (w:World):Key->Int
 | .inl k=>hashInt k
 | .inr x=>hashStr w x
theorem qd:∀ {k:Key}{v:Value},zJW k v=true->(∃ i t,k=Sum.inl i/\v=Value.int i t)\/(∃ x t,k=Sum.inr x/\v=Value.str x t)
 | .inl i,v,h=>by obtain ⟨t,e⟩:=Value.isInt_shape (k:=i) (v:=v) h;exact .inl ⟨i,t,rfl,e⟩
 | .inr x,v,h=>by obtain ⟨t,e⟩:=Value.isStrOf_shape (x:=x) (v:=v) h;exact .inr ⟨x,t,rfl,e⟩
theorem zMJ (i:Int)(t:Tok):zJW (.inl i) (.int i t)=true:=by simp [zJW,Value.isInt]
theorem zQ9 (x:Str)(t:Tok):zJW (.inr x) (.str x t)=true:=by simp [zJW,Value.isStrOf]
theorem zWo (a b:Int):decide ((Sum.inl a:Key)=Sum.inl b)=(a == b):=by
 by_cases e:a=b
 . subst e;simp
 . have h:¬ (Sum.inl a:Key)=Sum.inl b:=fun q=>e (Sum.inl.inj q);rw [decide_eq_false h];exact (beq_eq_false_iff_ne.mpr e).symm
theorem zWp (a b:Str):decide ((Sum.inr a:Key)=Sum.inr b)=decide (a=b):=by
 by_cases e:a=b
 . subst e;simp
 . have h:¬ (Sum.inr a:Key)=Sum.inr b:=fun q=>e (Sum.inr.inj q);rw [decide_eq_false h,decide_eq_false e]
theorem zWq (a:Int)(b:Str):decide ((Sum.inl a:Key)=Sum.inr b)=false:=decide_eq_false (fun q=>nomatch q)
theorem zWr (a:Str)(b:Int):decide ((Sum.inr a:Key)=Sum.inl b)=false:=decide_eq_false (fun q=>nomatch q)
def z4 (prog:Program)(w:World):PySem.KeyKind prog w Key where
 is:=zJW
 hash:=zZK w
 inj:=fun v a b ha hb=>by
   rcases qd ha with ⟨i,t,rfl,rfl⟩ | ⟨x,t,rfl,rfl⟩
   . rcases qd hb with ⟨j,u,rfl,e⟩ | ⟨y,u,rfl,e⟩
     . injection e with e1 _;rw [e1]
     . exact nomatch e
   . rcases qd hb with ⟨j,u,rfl,e⟩ | ⟨y,u,rfl,e⟩
     . exact nomatch e
     . injection e with e1 _;rw [e1]
 byValue:=fun k v h=>by rcases qd h with ⟨i,t,rfl,rfl⟩ | ⟨x,t,rfl,rfl⟩ <;> rfl
 pyHash:=fun hv h=>by
   rcases qd hv with ⟨i,t,rfl,rfl⟩ | ⟨x,t,rfl,rfl⟩
   . exact wpAny_pyHash_int h
   . exact wpAny_pyHash_str h
 eqBool:=fun hu hv h=>by
   rcases qd hu with ⟨i,t,rfl,rfl⟩ | ⟨x,t,rfl,rfl⟩
   . rcases qd hv with ⟨j,u,rfl,rfl⟩ | ⟨y,u,rfl,rfl⟩
     . rw [zWo] at h;exact wpAny_eqBool_int h
     . rw [zWq] at h;exact SeqAt.EqAt.int_str i t y u _ _ _ _ h
   . rcases qd hv with ⟨j,u,rfl,rfl⟩ | ⟨y,u,rfl,rfl⟩
     . rw [zWr] at h;exact SeqAt.EqAt.str_int x t j u _ _ _ _ h
     . rw [zWp] at h;exact wpAny_eqBool_str h
 «strs»:=fun k x t v h=>by
   rcases qd h with ⟨i,u,rfl,e⟩ | ⟨y,u,rfl,e⟩
   . exact nomatch e
   . injection e with e1 _;subst e1;cases v <;> rfl
theorem zHy (prog:Program)(w:World)(i:Int)(t:Tok):(z4 prog w).is (.inl i) (.int i t)=true:=zMJ i t
theorem zNZ (prog:Program)(w:World)(x:Str)(t:Tok):(z4 prog w).is (.inr x) (.str x t)=true:=zQ9 x t
inductive V where
 | non | bl (b:Bool) | int (i:Int) | str (x:Str) | byt (b:Array UInt8) | flt (b:UInt64) | ref (a:Addr) | ty (n:String)
 deriving DecidableEq
def RelV:V->Value->Prop
 | .non,u=>u=Value.none
 | .bl b,u=>u=Value.bool b
 | .int i,u=>∃ t,u=Value.int i t
 | .str x,u=>∃ t,u=Value.str x t
 | .byt b,u=>∃ t,u=Value.bytes b t
 | .flt b,u=>∃ t,u=Value.float b t
 | .ref a,u=>u=Value.ref a
 | .ty n,u=>u=Value.type n
abbrev Vals:List V->List Value->Prop:=Paired RelV
theorem Vals.length {xs:List V}{us:List Value}(r:Vals xs us):xs.length=us.length:=Paired.length r
theorem Vals.get:∀ {xs:List V}{us:List Value}{i:Nat}{x:V},Vals xs us->xs[i]? = some x->∃ u,us[i]? = some u/\RelV x u
 | _,_,_,_,.nil,e=>by simp at e
 | _,_,0,_,.cons r _,e=>by simp at e;subst e;exact ⟨_,rfl,r⟩
 | _,_,i+1,x,.cons _ t,e=>by obtain ⟨u,h1,h2⟩:=Vals.get (i:=i) (x:=x) t (by simpa using e);exact ⟨u,by simpa using h1,h2⟩
theorem Vals.set {x:V}{u:Value}(r:RelV x u):∀ {xs:List V}{us:List Value}(i:Nat),Vals xs us->Vals (xs.set i x) (us.set i u)
 | _,_,_,.nil=>.nil
 | _,_,0,.cons _ t=>.cons r t
 | _,_,i+1,.cons q t=>.cons q (Vals.set r i t)
theorem Vals.append:∀ {xs ys:List V}{us ws:List Value},Vals xs us->Vals ys ws->Vals (xs ++ ys) (us ++ ws)
 | _,_,_,_,.nil,s=>s
 | _,_,_,_,.cons r t,s=>.cons r (Vals.append t s)
theorem Vals.take:∀ {xs:List V}{us:List Value}(n:Nat),Vals xs us->Vals (xs.take n) (us.take n)
 | _,_,0,_=>.nil
 | _,_,_+1,.nil=>.nil
 | _,_,n+1,.cons r t=>.cons r (Vals.take n t)
theorem Vals.drop:∀ {xs:List V}{us:List Value}(n:Nat),Vals xs us->Vals (xs.drop n) (us.drop n)
 | _,_,0,r=>r
 | _,_,_+1,.nil=>.nil
 | _,_,n+1,.cons _ t=>Vals.drop n t
def zKq:Option V->Option Value->Prop
 | some v,some u=>RelV v u
 | none,none=>True
 | _,_=>False
def KV {κ:Type}:List (κ×V)->List (κ×Value)->Prop:=Paired fun (p:κ×V)(q:κ×Value)=>p.1=q.1/\RelV p.2 q.2
def kV:Key->V
 | .inl i=>.int i
 | .inr x=>.str x
inductive HO where
 | lst (xs:List V)
 | tup (xs:List V)
 | dK (kvs:List (Key×V)) | dT (kvs:List (List Key×V))
 | set (S:Int->Bool) (n:Nat)
 | ins (C dx:Addr) (fs:List (Str×V))
 | own (x:Addr)
 | xd (fs:List (Str×V))
 | met (f x:Addr)
 | rng (lo hi:Int)
 | frz (o:Obj) (u:HO)
 | tbl (ps:Array Value)
 | ext (φ:Heap->Prop)
abbrev Hp:=Addr->Option HO
def upd (H:Hp)(a:Addr)(o:HO):Hp:=fun b=>if b=a then some o else H b
theorem zB {H:Hp}{a:Addr}{o:HO}:upd H a o a=some o:=by unfold upd;rw [if_pos rfl]
theorem zF {H:Hp}{a b:Addr}{o:HO}(h:b≠a):upd H a o b=H b:=by unfold upd;rw [if_neg h]
theorem z5 {H:Hp}{a:Addr}{o u:HO}:upd (upd H a o) a u=upd H a u:=by funext b;unfold upd;split <;> rfl
theorem zVQ {H:Hp}{a b:Addr}{o u:HO}(h:H a=some o)(h' : H b=some u)(d:o≠u):a≠b:=by intro e;subst e;rw [h] at h';exact d (Option.some.inj h')
theorem zI {H:Hp}{a b:Addr}{o:HO}(h:H a=some o)(h' : H b=none):a≠b:=by intro e;subst e;rw [h] at h';cases h'
section
variable (P:Program) (w:World)
def jj (H:Hp)(h:Heap)(a:Addr):HO->Prop
 | .lst xs=>xs.length<=sizeLine/\∃ (its:List Value)(n:Nat),Vals xs its/\h.get? a=some { cls:=.type "list",data:=.seq its.toArray n }
 | .tup xs=>xs.length<=sizeLine/\∃ its:List Value,Vals xs its/\IsTup h a its.toArray
 | .dK kvs=>kvs.length<=sizeLine/\(a == sysModules)=false/\∃ vs,KV kvs vs/\h.DictOf (z4 P w) a vs
 | .dT kvs=>kvs.length<=sizeLine/\(a == sysModules)=false/\∃ xs:List (List Key×Addr×Value),
     Paired (fun (p:List Key×V)(q:List Key×Addr×Value)=>p.1=q.1/\H q.2.1=some (.tup (p.1.map kV))/\RelV p.2 q.2.2) kvs xs/\
     ∃ o es ep,h.get? a=some o/\o.ExactDict/\o.data=.dict es ep/\es.toList=xs.map (entryOfKey (tupleKind (z4 P w)))/\(xs.map (·.1)).Nodup
 | .set S n=>h.SetOf (intKind P w) a S n
 | .ins C dx fs=>H dx=some (.own a)/\fs.length<=1000/\dx≠a/\h.get? a=some (PySem.W.instObj C dx)/\
     ∃ mA,h.Ns1 dx mA/\(∀ f,zKq (fs.lookup f) (mA f))/\PySem.Within mA (fs.map (·.1))
 | .own _=>∃ o,h.get? a=some o
 | .xd fs=>∃ mA,h.Ns1 a mA/\∀ f,zKq (fs.lookup f) (mA f)
 | .rng lo hi=>∃ t u v,h.get? a=some { cls:=.type "range",data:=.fields #[.int lo t,.int hi u,.int 1 v] }
 | .frz o u=>h.get? a=some o/\jj H h a u
 | .tbl ps=>h.get? a=some { cls:=.none,data:=.fields ps }
 | .met f x=>h.get? a=some (PySem.W.methodObj (.ref f) (.ref x))
 | .ext φ=>φ h/\(∃ o,h.get? a=some o)/\∀ h1 h2:Heap,φ h1->(∀ o,h1.get? a=some o->h2.get? a=some o)->φ h2
def HOk (H:Hp)(h:Heap):Prop:=∀ a o,H a=some o->jj P w H h a o
end
section
variable {P:Program}{w:World}{H H' : Hp}{h h' : Heap}{a:Addr}{o:HO}
theorem jj.lt (x:jj P w H h a o):a < h.objs.size:=by
 cases o with
 | lst xs=>obtain ⟨_,_,_,_,e⟩:=x;exact Heap.lt_size e
 | tup xs=>obtain ⟨_,_,_,p⟩:=x;exact p.lt
 | dK kvs=>obtain ⟨_,_,_,_,o,_,_,e,_⟩:=x;exact Heap.lt_size e
 | dT kvs=>obtain ⟨_,_,_,_,o,_,_,e,_⟩:=x;exact Heap.lt_size e
 | set S n=>obtain ⟨o,_,_,_,e,_⟩:=x;exact Heap.lt_size e
 | ins C dx fs=>obtain ⟨_,_,_,e,_⟩:=x;exact Heap.lt_size e
 | own y=>obtain ⟨_,e⟩:=x;exact Heap.lt_size e
 | xd fs=>obtain ⟨_,⟨_,_,_,e,_⟩,_⟩:=x;exact Heap.lt_size e
 | rng lo hi=>obtain ⟨_,_,_,e⟩:=x;exact Heap.lt_size e
 | frz ob u=>obtain ⟨e,_⟩:=x;exact Heap.lt_size e
 | tbl ps=>exact Heap.lt_size (show h.get? a=some _ from x)
 | met f y=>exact Heap.lt_size (show h.get? a=some _ from x)
 | ext φ=>obtain ⟨_,⟨_,e⟩,_⟩:=x;exact Heap.lt_size e
theorem Paired.zFH {α β:Type}{F G:α->β->Prop}:∀ {l₁:List α}{l₂:List β},Paired F l₁ l₂->(∀ a b,F a b->G a b)->Paired G l₁ l₂
 | _,_,.nil,_=>.nil
 | _,_,.cons r t,f=>.cons (f _ _ r) (Paired.zFH t f)
theorem jj.zMK (x:jj P w H h a o)(k:∀ b u,(b=a\/H b=some (.own a))->h.get? b=some u->h'.get? b=some u)(ho:∀ b,H b=some (.own a)->H' b=some (.own a))(ht:∀ b xs,H b=some (.tup xs)->H' b=some (.tup xs)):jj P w H' h' a o:=by
 induction o with
 | lst xs=>obtain ⟨z,its,n,r,e⟩:=x;exact ⟨z,its,n,r,k _ _ (.inl rfl) e⟩
 | tup xs=>obtain ⟨z,its,r,ob,e,c⟩:=x;exact ⟨z,its,r,ob,k _ _ (.inl rfl) e,c⟩
 | dK kvs=>obtain ⟨z,y,vs,r,ob,es,ep,e,c⟩:=x;exact ⟨z,y,vs,r,ob,es,ep,k _ _ (.inl rfl) e,c⟩
 | dT kvs =>obtain ⟨z,y,xs,r,ob,es,ep,e,c⟩:=x;exact ⟨z,y,xs,Paired.zFH r fun p q z=>⟨z.1,ht _ _ z.2.1,z.2.2⟩,ob,es,ep,k _ _ (.inl rfl) e,c⟩
 | set S n=>obtain ⟨ob,es,ep,t,e,c⟩:=x;exact ⟨ob,es,ep,t,k _ _ (.inl rfl) e,c⟩
 | ins C dx fs =>obtain ⟨d,z,ne,e,mA,⟨od,es,ep,e2,c⟩,r⟩:=x;exact ⟨ho _ d,z,ne,k _ _ (.inl rfl) e,mA,⟨od,es,ep,k _ _ (.inr d) e2,c⟩,r⟩
 | own y=>obtain ⟨ob,e⟩:=x;exact ⟨ob,k _ _ (.inl rfl) e⟩
 | xd fs=>obtain ⟨mA,⟨od,es,ep,e,c⟩,r⟩:=x;exact ⟨mA,⟨od,es,ep,k _ _ (.inl rfl) e,c⟩,r⟩
 | rng lo hi=>obtain ⟨t,u,v,e⟩:=x;exact ⟨t,u,v,k _ _ (.inl rfl) e⟩
 | frz ob u ih=>obtain ⟨e,q⟩:=x;exact ⟨k _ _ (.inl rfl) e,ih q⟩
 | tbl ps =>have e:h.get? a=some { cls:=.none,data:=.fields ps }:=x;show h'.get? a=some { cls:=.none,data:=.fields ps };exact k a _ (.inl rfl) e
 | met f y =>have e:h.get? a=some (PySem.W.methodObj (.ref f) (.ref y)):=x;show h'.get? a=some (PySem.W.methodObj (.ref f) (.ref y));exact k a _ (.inl rfl) e
 | ext φ=>obtain ⟨p,⟨o,e⟩,st⟩:=x;exact ⟨st _ _ p fun o q=>k _ _ (.inl rfl) q,⟨o,k _ _ (.inl rfl) e⟩,st⟩
theorem HOk.lt (x:HOk P w H h)(e:H a=some o):a < h.objs.size:=(x a o e).lt
theorem HOk.fresh (x:HOk P w H h)(e:h.objs.size<=a):H a=none:=by
 cases q:H a with
 | none=>rfl
 | some u=>exact absurd (Nat.lt_of_lt_of_le (x.lt q) e) (Nat.lt_irrefl _)
theorem HOk.kept (x:HOk P w H h)(k:∀ b u,h.get? b=some u->h'.get? b=some u):HOk P w H h':=fun a o e =>
 (x a o e).zMK (fun b u _ q=>k b u q) (fun _ q=>q) fun _ _ q=>q
theorem HOk.laid (x:HOk P w H h)(k:∀ b u,h.get? b=some u->h'.get? b=some u)(hp:h.objs.size<=a)(new:jj P w (upd H a o) h' a o):HOk P w (upd H a o) h':=fun b u e=>by
 have hn:=x.fresh hp;by_cases hb:b=a
 . subst hb;rw [zB] at e;cases e;exact new
 . rw [zF hb] at e;exact (x b u e).zMK (fun c v _ q=>k c v q) (fun c q=>by rw [zF (zI q hn)];exact q) fun c xs q=>by rw [zF (zI q hn)];exact q
end
def Rd (H:Hp)(a:Addr)(u:HO):Prop:=H a=some u\/∃ o,H a=some (.frz o u)
theorem Rd.ok {P:Program}{w:World}{H:Hp}{h:Heap}{a:Addr}{u:HO}(r:Rd H a u)(x:HOk P w H h):jj P w H h a u:=by
 rcases r with r | ⟨o,r⟩
 . exact x a u r
 . obtain ⟨_,q⟩:=x a _ r;exact q
def Mut:Option HO->Prop
 | some (.lst _)=>True
 | some (.dK _)=>True
 | some (.dT _)=>True
 | some (.set _ _)=>True
 | some (.ins _ _ _)=>True
 | some (.ext _)=>True
 | _=>False
section
variable {P:Program}{w:World}{H:Hp}{h h' : Heap}{x e:Addr}{o' : HO}
theorem HOk.write (ok:HOk P w H h)(mu:Mut (H x))(he:e=x\/H e=some (.own x))(k:∀ b u,b≠e->h.get? b=some u->h'.get? b=some u)(heo:∃ u,h'.get? e=some u)(new:jj P w (upd H x o') h' x o'):HOk P w (upd H x o') h':=fun b u q=>by
 have nown:∀ c y,H c=some (.own y)->c≠x:=fun c y r z=>by subst z;rw [r] at mu;exact mu
 have ntup:∀ c xs,H c=some (.tup xs)->c≠x:=fun c xs r z=>by subst z;rw [r] at mu;exact mu
 by_cases hb:b=x
 . subst hb;rw [zB] at q;cases q;exact new
 . rw [zF hb] at q;by_cases hbe:b=e
   . have q' : H b=some (.own x):=by
       rcases he with z | z
       . exact absurd (hbe.trans z) hb
       . rw [hbe];exact z
     rw [q] at q';cases q';obtain ⟨v,hv⟩:=heo;exact ⟨v,by rw [hbe];exact hv⟩
   . refine (ok b u q).zMK (fun c v hc r=>k c v ?_ r) (fun c r=>by rw [zF (nown c b r)];exact r) fun c xs r=>by rw [zF (ntup c xs r)];exact r
     rcases hc with rfl | hc
     . exact hbe
     . rintro rfl;rcases he with z | z
       . exact nown c b hc z
       . rw [hc] at z;cases z;exact hb rfl
end
structure Un (fs ex:List Addr)(H H' : Hp)(h h' : Heap):Prop where
 keep:∀ b o,h.get? b=some o->H b=none->b∉fs->b∉ex->h'.get? b=some o
 slot:∀ b o,h.get? b=some o->H b=none->b∈fs->b∉ex->∃ sl,h'.get? b=some { o with slots:=sl }
 free:∀ b o,h.get? b=some o->H b=none->b∉ex->H' b=none
 there:∀ b o,h.get? b=some o->b∉ex->∃ o',h'.get? b=some o'
 tups:∀ b xs,H b=some (.tup xs)->H' b=some (.tup xs)
 frzs:∀ b o u,H b=some (.frz o u)->H' b=some (.frz o u)
 tbls:∀ b ps,H b=some (.tbl ps)->∃ more,H' b=some (.tbl (ps ++ more))
section
variable {fs fs' ex ex' : List Addr}{H H1 H2:Hp}{h h1 h2 h' : Heap}{a x e:Addr}{o:HO}
theorem Un.any (u:Un fs ex H H1 h h1){b:Addr}{ob:Obj}(q:h.get? b=some ob)(n:H b=none)(hx:b∉ex):∃ sl,h1.get? b=some { ob with slots:=sl }:=by
 by_cases hb:b∈fs
 . exact u.slot b ob q n hb hx
 . exact ⟨ob.slots,u.keep b ob q n hb hx⟩
theorem Un.kept (k:∀ b u,h.get? b=some u->h'.get? b=some u):Un fs ex H H h h' :=
 ⟨fun b ob q _ _ _=>k b ob q,fun b ob q _ _ _=>⟨ob.slots,k b ob q⟩,fun _ _ _ n _=>n,fun b ob q _=>⟨ob,k b ob q⟩,fun _ _ q=>q,fun _ _ _ q=>q,fun _ ps q=>⟨#[],by rw [q];simp⟩⟩
theorem Un.refl:Un fs ex H H h h:=Un.kept fun _ _ q=>q
theorem Un.laid (k:∀ b u,h.get? b=some u->h'.get? b=some u)(hp:h.objs.size<=a)(hn:H a=none):Un fs ex H (upd H a o) h h' where
 keep:=fun b u q _ _ _=>k b u q
 slot:=fun b u q _ _ _=>⟨u.slots,k b u q⟩
 free:=fun b u q n _=>by rw [zF (Nat.ne_of_lt (Nat.lt_of_lt_of_le (Heap.lt_size q) hp))];exact n
 there:=fun b u q _=>⟨u,k b u q⟩
 tups:=fun b xs q=>by rw [zF (zI q hn)];exact q
 frzs:=fun b u xs q=>by rw [zF (zI q hn)];exact q
 tbls:=fun b ps q=>⟨#[],by rw [zF (zI q hn),q];simp⟩
theorem Un.write (mu:Mut (H x))(he:e=x\/H e=some (.own x))(k:∀ b u,b≠e->h.get? b=some u->h'.get? b=some u)(heo:∃ u,h'.get? e=some u):Un fs ex H (upd H x o) h h':=by
 have hx:∀ b,H b=none->b≠x:=fun b n z=>by subst z;rw [n] at mu;exact mu
 have hb:∀ b,H b=none->b≠e:=fun b n z=>by
   subst z;rcases he with r | r
   . exact hx b n r
   . rw [n] at r;cases r
 have hm:∀ b u,H b=some u->¬ Mut (some u)->b≠x:=fun b u q nm z=>by subst z;rw [q] at mu;exact nm mu
 refine ⟨fun b u q n _ _=>k b u (hb b n) q,fun b u q n _ _=>⟨u.slots,k b u (hb b n) q⟩,fun b u q n _=>by rw [zF (hx b n)];exact n,fun b u q _=>?_,
   fun b xs q=>by rw [zF (hm b _ q fun z=>z)];exact q,fun b u xs q=>by rw [zF (hm b _ q fun z=>z)];exact q,fun b ps q=>⟨#[],by rw [zF (hm b _ q fun z=>z),q];simp⟩⟩
 by_cases hbe:b=e
 . subst hbe;exact heo
 . exact ⟨u,k b u hbe q⟩
end
def trk (h:Heap)(H:Hp):List Addr:=(List.range h.objs.size).filter fun a=>(H a).isSome
def zTR (h:Heap)(H:Hp):Heap:=PySem.W.hideAll h (trk h H)
theorem zRA (h:Heap)(H:Hp):(zTR h H).objs.size=h.objs.size:=PySem.W.hideAll_size _ _
theorem zTS {h:Heap}{H:Hp}{b:Addr}{o:Obj}(e:h.get? b=some o)(n:H b=none):(zTR h H).get? b=some o :=
 PySem.W.hideAll_get _ e fun hm=>by have q:(H b).isSome=true:=(List.mem_filter.mp hm).2;rw [n] at q;simp at q
theorem zVR {h:Heap}{H:Hp}{b:Addr}{o:Obj}(e:(zTR h H).get? b=some o):h.get? b=some o/\H b=none:=by
 have e' : h.get? b=some o:=PySem.W.of_hideAll (trk h H) e;refine ⟨e',?_⟩;cases q:H b with
 | none=>rfl
 | some x =>have hm:b∈trk h H:=List.mem_filter.mpr ⟨List.mem_range.mpr (Heap.lt_size e'),by simp [q]⟩;have z:(zTR h H).get? b=none:=PySem.W.hideAll_none (trk h H) hm;rw [z] at e;cases e
def zKr (g h:Heap)(L:Addr):List (Addr×Obj):=(List.range h.objs.size).filterMap fun a=>if a=L\/(g.get? a).isSome=true then none else (h.get? a).map fun o=>(a,o)
theorem zNa {g h:Heap}{L a:Addr}{o:Obj}(h1:a≠L)(h2:g.get? a=none)(h3:h.get? a=some o):(a,o)∈zKr g h L :=
 List.mem_filterMap.mpr ⟨a,List.mem_range.mpr (Heap.lt_size h3),by simp [h1,h2,h3]⟩
theorem zJX {g h:Heap}{L:Addr}{p:Addr×Obj}(hp:p∈zKr g h L):p.1≠L/\g.get? p.1=none/\h.get? p.1=some p.2:=by
 obtain ⟨b,_,e⟩:=List.mem_filterMap.mp hp;split at e
 . cases e
 . rename_i hn;cases q:h.get? b with
   | none=>rw [q] at e;simp at e
   | some u =>
     rw [q] at e;simp only [Option.map_some,Option.some.injEq] at e;subst e;refine ⟨fun z=>hn (.inl z),?_,q⟩;show g.get? b=none;cases r:g.get? b with
     | none=>rfl
     | some v=>exact (hn (.inr (by simp [r]))).elim
theorem zTT {g h:Heap}{L:Addr}:News g L h (zKr g h L):=fun p hp=>let ⟨a,b,c⟩:=zJX hp;⟨c,a,b⟩
structure Mod (K:Fg)(mg:Y3)(base:Heap):Prop where
 kin:K.In base
 glob:base.Ns mainGlobals mg
 blt:∃ mb,base.Ns builtinsNs mb/\∀ x:Str,x≠"__name__"->mb x=bootBuiltins x
 nolimit:base.NoLimit
structure Cx where
 prog:Program
 w:World
 K:Fg
 mg:Str->Option Value
 base:Heap
 A:Around
 N:List Str
 s_0:Shared
 H_0:Hp
 env:Env
 outer:List Env
 stack:List Env
 ex:List Addr
 fn:Str->Bool
 calm:Bool
 pn:List (Addr×Obj)
 xe:Value->Shared->Prop
def frs (l:List Env):List Addr:=l.filterMap (·.frame)
abbrev Cx.fs (X:Cx):List Addr:=frs X.outer
def Vis (sc:Scope)(x:Str):Prop:=sc.names.lookup x=some .local\/sc.names.lookup x=some .cell\/sc.names.lookup x=some .free
def Loc (sc:Scope)(x:Str):Prop:=sc.names.lookup x=some .local\/sc.names.lookup x=some .cell
def Look (env:Env)(h:Heap)(m:Y3)(x:Str)(u:Value):Prop :=
 (env.kindOf x=some .local/\m x=some u)\/((env.kindOf x=some .cell\/env.kindOf x=some .free)/\∃ c,env.cells.lookup x=some c/\h.IsCell c (some u))
structure Cx.Ok (X:Cx):Prop where
 mod:Mod X.K X.mg X.base
 kind:X.env.scope.kind=.function
 glob:X.env.globals=mainGlobals
 blt:X.env.builtins=builtinsNs
 above:X.s_0.heap.objs.size<=X.env.locals
 inj:∀ x y c,X.env.cells.lookup x=some c->X.env.cells.lookup y=some c->x=y
 has:∀ x,(X.env.kindOf x=some .cell\/X.env.kindOf x=some .free)->∃ c,X.env.cells.lookup x=some c
 cab:∀ x c,X.fn x=true->X.env.cells.lookup x=some c->X.s_0.heap.objs.size<=c
 hd:X.calm=true->X.A.handled=none
 frames:X.A.frames=some X.stack
 stk:X.stack=X.outer\/(X.stack=X.env :: X.outer/\X.env.frame=some X.env.locals)
 exf:∀ b∈X.ex,b≠X.env.locals/\∀ x c,X.env.cells.lookup x=some c->c≠b
 bs:∀ b o,X.base.get? b=some o->X.s_0.heap.get? b=some o/\X.H_0 b=none
 bsz:X.base.objs.size<=X.s_0.heap.objs.size
 noex:∀ b o,X.base.get? b=some o->b∉X.ex
 exfs:∀ b∈X.ex,b∉X.fs
 zML:X.s_0.heap.FunFrames X.base X.outer
 frf:∀ b∈X.fs,X.H_0 b=none
structure Inv (X:Cx)(pins:Y2)(Z:List (Option V))(H:Hp)(s:Shared):Prop where
 ok:X.Ok
 os:s.os=X.s_0.os
 bare:AllBare s.gens
 base:Un X.fs X.ex X.H_0 H X.s_0.heap s.heap
 loc:∃ m,s.heap.Ns X.env.locals m/\∀ (i:Nat)(x:Str)(v:V),X.N[i]? = some x->Z[i]? = some (some v)->Vis X.env.scope x->∃ u,RelV v u/\Look X.env s.heap m x u
 cell:∀ x c,X.env.cells.lookup x=some c->∃ v,s.heap.IsCell c v
 free:H X.env.locals=none
 freeC:∀ x c,X.env.cells.lookup x=some c->H c=none
 pin:∀ p∈X.pn ++ pins,s.heap.get? p.1=some p.2/\H p.1=none/\p.1≠X.env.locals/\p.1∉X.fs/\∀ v,p.2.data≠.cell v
 hok:HOk X.prog X.w H s.heap
 len:Z.length=X.N.length
section
variable {X:Cx}{pins:Y2}{Z:List (Option V)}{H H' : Hp}{s:Shared}{h' : Heap}
theorem Cx.Ok.zZL (ok:X.Ok){b:Addr}{o:Obj}(e:X.base.get? b=some o):b∉X.fs:=fun hb=>by have:=(ok.zML.mem hb).1;rw [e] at this;cases this
theorem Inv.bs (I:Inv X pins Z H s):∀ b o,X.base.get? b=some o->s.heap.get? b=some o/\H b=none:=fun b o e =>
 ⟨I.base.keep b o (I.ok.bs b o e).1 (I.ok.bs b o e).2 (I.ok.zZL e) (I.ok.noex b o e),I.base.free b o (I.ok.bs b o e).1 (I.ok.bs b o e).2 (I.ok.noex b o e)⟩
theorem Inv.bk (I:Inv X pins Z H s):∀ b o,X.base.get? b=some o->s.heap.get? b=some o:=fun b o e=>(I.bs b o e).1
theorem Inv.mod (I:Inv X pins Z H s):Mod X.K X.mg X.base:=I.ok.mod
theorem Inv.kIn (I:Inv X pins Z H s):X.K.In s.heap:=I.ok.mod.kin.keeps I.bk
theorem Inv.fr (I:Inv X pins Z H s):∃ m,Fr X.base X.env.locals s.heap m :=
 let ⟨m,hn,_⟩:=I.loc
 ⟨m,hn,I.bk,Nat.le_trans I.ok.bsz I.ok.above⟩
theorem Inv.lt (I:Inv X pins Z H s):X.env.locals < s.heap.objs.size:=let ⟨_,hn,_⟩:=I.loc;hn.lt
theorem Inv.sz (I:Inv X pins Z H s):X.s_0.heap.objs.size<=s.heap.objs.size:=Nat.le_trans I.ok.above (Nat.le_of_lt I.lt)
theorem Inv.zZM (I:Inv X pins Z H s){a:Addr}(h:s.heap.objs.size<=a):a∉X.fs:=fun hb=>by obtain ⟨_,o,ho,_⟩:=I.ok.zML.mem hb;exact absurd (Nat.lt_of_lt_of_le (Heap.lt_size ho) (Nat.le_trans I.sz h)) (Nat.lt_irrefl _)
theorem Inv.cne (I:Inv X pins Z H s):∀ x c,X.env.cells.lookup x=some c->c≠X.env.locals:=fun x c e z=>by obtain ⟨v,o,ho,hd⟩:=I.cell x c e;obtain ⟨m,⟨o',es,ep,ho',hd',_⟩,_⟩:=I.loc;rw [z,ho'] at ho;cases ho;rw [hd'] at hd;cases hd
theorem Inv.zML (I:Inv X pins Z H s):s.heap.FunFrames X.base X.outer:=by
 have all:∀ (l:List Env),(∀ b∈frs l,b∈X.fs)->X.s_0.heap.FunFrames X.base l->s.heap.FunFrames X.base l:=by
   intro l
   induction l with
   | nil=>intro _ _;trivial
   | cons env r ih =>intro hs hl;obtain ⟨hk,⟨L,o,hf,hn,ho,hd⟩,hr⟩:=hl;have hL:L∈X.fs:=hs L (by unfold frs;rw [List.filterMap_cons,hf];exact List.mem_cons_self);obtain ⟨sl,e⟩:=I.base.slot L o ho (I.ok.frf L hL) hL fun z=>I.ok.exfs L z hL;exact ⟨hk,⟨L,_,hf,hn,e,hd⟩,ih (fun b hb=>hs b (by unfold frs;rw [List.filterMap_cons,hf];exact List.mem_cons_of_mem _ hb)) hr⟩
 exact all X.outer (fun _ hb=>hb) I.ok.zML
theorem Inv.stack (I:Inv X pins Z H s):s.heap.FunFrames X.base X.stack:=by
 rcases I.ok.stk with e | ⟨e,hf⟩
 . rw [e];exact I.zML
 . rw [e];obtain ⟨m,hn,_⟩:=I.loc;refine .cons (by rw [I.ok.kind];decide) hf hn ?_ I.zML;exact Heap.get?_none_of_le (Nat.le_trans I.ok.bsz I.ok.above)
theorem Inv.zMM (I:Inv X pins Z H s):∀ b∈frs X.stack,b∈X.env.locals :: X.fs:=fun b hb=>by
 rcases I.ok.stk with e | ⟨e,hf⟩
 . rw [e] at hb;exact List.mem_cons_of_mem _ hb
 . rw [e] at hb;unfold frs at hb;rw [List.filterMap_cons,hf] at hb;exact hb
theorem Inv.zKs (I:Inv X pins Z H s):∀ b∈frs X.stack,H b=none:=fun b hb=>by
 rcases List.mem_cons.mp (I.zMM b hb) with e | hb
 . rw [e];exact I.free
 . obtain ⟨_,o,ho,_⟩:=I.ok.zML.mem hb;exact I.base.free b o ho (I.ok.frf b hb) fun z=>I.ok.exfs b z hb
theorem Inv.step {g' : Array GenState}{t' : Nat}{d' : Drawn}{ch:List Addr}(I:Inv X pins Z H s)(hch:∀ b∈ch,(b∈X.ex\/X.s_0.heap.objs.size<=b)/\b≠X.env.locals/\(∀ x c,X.env.cells.lookup x=some c->c≠b)/\∀ p∈X.pn ++ pins,p.1≠b)(keep:∀ b o,b≠X.env.locals->b∉X.fs->b∉ch->s.heap.get? b=some o->H b=none->h'.get? b=some o)(slot:∀ b o,b≠X.env.locals->b∈X.fs->b∉ch->s.heap.get? b=some o->H b=none->∃ sl,h'.get? b=some { o with slots:=sl })(free:∀ b o,b∉ch->s.heap.get? b=some o->H b=none->H' b=none)(there:∀ b o,b∉ch->s.heap.get? b=some o->∃ o',h'.get? b=some o')(tups:∀ b xs,H b=some (.tup xs)->H' b=some (.tup xs))(frzs:∀ b o u,H b=some (.frz o u)->H' b=some (.frz o u))(tbls:∀ b ps,H b=some (.tbl ps)->∃ more,H' b=some (.tbl (ps ++ more)))(ns:∀ m,s.heap.Ns X.env.locals m->h'.Ns X.env.locals m)(hok:HOk X.prog X.w H' h')(hg:AllBare g') : Inv X pins Z H' { s with heap:=h',gens:=g',drawn:=d',toks:=t' }:=by
 have neL:∀ b o,X.s_0.heap.get? b=some o->b≠X.env.locals:=fun b o e=>Nat.ne_of_lt (Nat.lt_of_lt_of_le (Heap.lt_size e) I.ok.above);have neC:∀ b o,X.s_0.heap.get? b=some o->b∉X.ex->b∉ch:=fun b o e hx hb=>by
   rcases (hch b hb).1 with z | z
   . exact hx z
   . exact absurd (Nat.lt_of_lt_of_le (Heap.lt_size e) z) (Nat.lt_irrefl _)
 have cellK:∀ x c,X.env.cells.lookup x=some c->∀ v,s.heap.IsCell c v->h'.IsCell c v:=fun x c e v ⟨o,ho,hd⟩=>by
   have nch:c∉ch:=fun z=>(hch c z).2.2.1 x c e rfl;by_cases hc:c∈X.fs
   . obtain ⟨sl,q⟩:=slot c o (I.cne x c e) hc nch ho (I.freeC x c e);exact ⟨_,q,hd⟩
   . exact ⟨o,keep c o (I.cne x c e) hc nch ho (I.freeC x c e),hd⟩
 refine ⟨I.ok,I.os,hg,⟨fun b o e n hb hx=>?_,fun b o e n hb hx=>?_,fun b o e n hx=>?_,fun b o e hx=>?_,fun b xs e=>tups b xs (I.base.tups b xs e),fun b o xs e=>frzs b o xs (I.base.frzs b o xs e),fun b ps e=>?_⟩,?_,fun x c e=>?_,?_,fun x c e=>?_,fun p hp=>?_,hok,I.len⟩
 . exact keep b o (neL b o e) hb (neC b o e hx) (I.base.keep b o e n hb hx) (I.base.free b o e n hx)
 . obtain ⟨sl,e1⟩:=I.base.slot b o e n hb hx;obtain ⟨sl',e2⟩:=slot b _ (neL b o e) hb (neC b o e hx) e1 (I.base.free b o e n hx);exact ⟨sl',e2⟩
 . obtain ⟨o',e1⟩:=I.base.there b o e hx;exact free b o' (neC b o e hx) e1 (I.base.free b o e n hx)
 . obtain ⟨o',e1⟩:=I.base.there b o e hx;exact there b o' (neC b o e hx) e1
 . obtain ⟨m1,e1⟩:=I.base.tbls b ps e;obtain ⟨m2,e2⟩:=tbls b _ e1;exact ⟨m1 ++ m2,by rw [e2,Array.append_assoc]⟩
 . obtain ⟨m,hn,hl⟩:=I.loc;refine ⟨m,ns m hn,fun i x v e1 e2 e3=>?_⟩;obtain ⟨u,r,l⟩:=hl i x v e1 e2 e3;refine ⟨u,r,?_⟩;rcases l with l | ⟨k,c,e,z⟩
   . exact .inl l
   . exact .inr ⟨k,c,e,cellK x c e _ z⟩
 . obtain ⟨v,z⟩:=I.cell x c e;exact ⟨v,cellK x c e v z⟩
 . obtain ⟨m,⟨o,_,_,ho,_⟩,_⟩:=I.loc;exact free _ o (fun z=>(hch _ z).2.1 rfl) ho I.free
 . obtain ⟨v,o,ho,hd⟩:=I.cell x c e;exact free c o (fun z=>(hch c z).2.2.1 x c e rfl) ho (I.freeC x c e)
 . obtain ⟨e,n,ne,nf,d⟩:=I.pin p hp;have nch:p.1∉ch:=fun z=>(hch p.1 z).2.2.2 p hp rfl;exact ⟨keep p.1 p.2 ne nf nch e n,free p.1 p.2 nch e n,ne,nf,d⟩
theorem Inv.un {t' : Nat}(I:Inv X pins Z H s)(u:Un X.fs [] H H' s.heap h')(hok:HOk X.prog X.w H' h'):Inv X pins Z H' { s with heap:=h',toks:=t' }:=by obtain ⟨m,⟨o,es,ep,ho,r⟩,_⟩:=id I.loc;obtain ⟨sl,hL⟩:=u.any ho I.free (by simp);exact I.step (g':=s.gens) (d':=s.drawn) (ch:=[]) (fun _ z=>nomatch z) (fun b o _ hb _ e n=>u.keep b o e n hb (by simp)) (fun b o _ hb _ e n=>u.slot b o e n hb (by simp)) (fun b o _ e n=>u.free b o e n (by simp)) (fun b o _ e=>u.there b o e (by simp)) u.tups u.frzs u.tbls (fun m' hm=>by obtain ⟨o',es',ep',ho',r'⟩:=hm;rw [ho] at ho';cases ho';exact ⟨_,es',ep',hL,r'⟩) hok I.bare
theorem Inv.call {g' : Array GenState}{t' : Nat}{d' : Drawn}{ch:List Addr}(I:Inv X pins Z H s)(u:Un (frs X.stack) ch H H' s.heap h')(hok:HOk X.prog X.w H' h')(hg:AllBare g')(hch:∀ b∈ch,(b∈X.ex\/X.s_0.heap.objs.size<=b)/\b≠X.env.locals/\(∀ x c,X.env.cells.lookup x=some c->c≠b)/\∀ p∈X.pn ++ pins,p.1≠b) : Inv X pins Z H' { s with heap:=h',gens:=g',drawn:=d',toks:=t' }:=by obtain ⟨m,⟨o,es,ep,ho,r⟩,_⟩:=id I.loc;obtain ⟨sl,hL⟩:=u.any ho I.free fun z=>(hch _ z).2.1 rfl;exact I.step (ch:=ch) hch (fun b o hL hb hc e n=>u.keep b o e n (fun z=>(List.mem_cons.mp (I.zMM b z)).elim hL hb) hc) (fun b o _ _ hc e n=>u.any e n hc) (fun b o hc e n=>u.free b o e n hc) (fun b o hc e=>u.there b o e hc) u.tups u.frzs u.tbls (fun m' hm=>by obtain ⟨o',es',ep',ho',r'⟩:=hm;rw [ho] at ho';cases ho';exact ⟨_,es',ep',hL,r'⟩) hok hg
theorem Inv.turned {t' : Nat}{it:Addr}(I:Inv X pins Z H s)(k:∀ b o,b≠it->s.heap.get? b=some o->h'.get? b=some o)(hn:H it=none)(hL:it≠X.env.locals)(h1:it∈X.ex\/X.s_0.heap.objs.size<=it)(h2:∀ x c,X.env.cells.lookup x=some c->c≠it)(h3:∀ p∈X.pn ++ pins,p.1≠it):Inv X pins Z H { s with heap:=h',toks:=t' }:=by
 have nit:∀ b u,H b=some u->b≠it:=fun b u e z=>by rw [z,hn] at e;cases e
 refine I.step (g':=s.gens) (d':=s.drawn) (ch:=[it]) (fun b hb=>?_) (fun b o _ _ hc e _=>k b o (fun z=>hc (by simp [z])) e) (fun b o _ _ hc e _=>⟨o.slots,k b o (fun z=>hc (by simp [z])) e⟩) (fun _ _ _ _ n=>n)
   (fun b o hc e=>⟨o,k b o (fun z=>hc (by simp [z])) e⟩) (fun _ _ e=>e) (fun _ _ _ e=>e) (fun b ps e=>⟨#[],by rw [e];simp⟩) (fun m hm=>?_) (fun b u e=>?_) I.bare
 . have e:b=it:=(by simpa using hb);subst e;exact ⟨h1,hL,h2,h3⟩
 . obtain ⟨o,es,ep,ho,r⟩:=hm;exact ⟨o,es,ep,k _ o (Ne.symm hL) ho,r⟩
 . refine (I.hok b u e).zMK (fun c v hc q=>k c v ?_ q) (fun _ q=>q) fun _ _ q=>q;rcases hc with z | z
   . rw [z];exact nit b u e
   . exact nit c _ z
theorem Inv.tok (I:Inv X pins Z H s)(t:Nat):Inv X pins Z H { s with toks:=t }:=I.un (h':=s.heap) (t':=t) Un.refl I.hok
theorem Inv.kept {t' : Nat}(I:Inv X pins Z H s)(k:∀ b u,s.heap.get? b=some u->h'.get? b=some u):Inv X pins Z H { s with heap:=h',toks:=t' }:=I.un (Un.kept k) (I.hok.kept k)
theorem Inv.laid {a:Addr}{o:HO}{t' : Nat}(I:Inv X pins Z H s)(k:∀ b u,s.heap.get? b=some u->h'.get? b=some u)(hp:s.heap.objs.size<=a)(new:jj X.prog X.w (upd H a o) h' a o) : Inv X pins Z (upd H a o) { s with heap:=h',toks:=t' }:=I.un (Un.laid k hp (I.hok.fresh hp)) (I.hok.laid k hp new)
theorem Inv.write {x e:Addr}{o:HO}{t' : Nat}(I:Inv X pins Z H s)(mu:Mut (H x))(he:e=x\/H e=some (.own x))(k:∀ b u,b≠e->s.heap.get? b=some u->h'.get? b=some u)(heo:∃ u,h'.get? e=some u)(new:jj X.prog X.w (upd H x o) h' x o):Inv X pins Z (upd H x o) { s with heap:=h',toks:=t' }:=I.un (Un.write mu he k heo) (I.hok.write mu he k heo new)
theorem Inv.weak {Z' : List (Option V)}(I:Inv X pins Z H s)(hl:Z'.length=Z.length)(w:∀ (i:Nat) v,Z'[i]? = some (some v)->Z[i]? = some (some v)):Inv X pins Z' H s :=
 ⟨I.ok,I.os,I.bare,I.base,let ⟨m,hn,hl'⟩:=I.loc;⟨m,hn,fun i x v e1 e2 e3=>hl' i x v e1 (w i v e2) e3⟩,I.cell,I.free,I.freeC,I.pin,I.hok,hl.trans I.len⟩
theorem Inv.zRB {pins' : List (Addr×Obj)}(I:Inv X pins Z H s)(h:∀ p∈pins',s.heap.get? p.1=some p.2/\H p.1=none/\p.1≠X.env.locals/\p.1∉X.fs/\∀ v,p.2.data≠.cell v):Inv X pins' Z H s :=
 ⟨I.ok,I.os,I.bare,I.base,I.loc,I.cell,I.free,I.freeC,fun p hp=>(List.mem_append.mp hp).elim (fun z=>I.pin p (List.mem_append_left _ z)) (h p),I.hok,I.len⟩
theorem zKt {N:List Str}(hN:N.Nodup){i j:Nat}{x:Str}(a:N[i]? = some x)(b:N[j]? = some x):i=j:=by obtain ⟨h1,e1⟩:=List.getElem?_eq_some_iff.mp a;obtain ⟨h2,e2⟩:=List.getElem?_eq_some_iff.mp b;exact (List.getElem_inj hN).mp (e1.trans e2.symm)
theorem zMN {M:Model}{A:Around}{E:Y1}{i:Nat}{x:Str}{v:V}{u:Value}{Q:Unit->Shared->Prop}(I:Inv X pins Z H s)(hN:X.N.Nodup)(hi:X.N[i]? = some x)(hx:Loc X.env.scope x)(r:RelV v u)(h:∀ s',Inv X pins (Z.set i (some v)) H s'->(∃ a,Heap.SameBut a s.heap s'.heap/\(a=X.env.locals\/X.env.cells.lookup x=some a))->Q () s')(hf:X.fn x=true\/X.env.scope.names.lookup x=some .local:=by first | exact .inl rfl | exact .inr rfl | assumption):wpAny M A (storeName X.env x u) Q E s:=by
 obtain ⟨m,hn,hl⟩:=id I.loc;have hcls:(X.env.scope.kind == .class || (X.env.scope.kind == .module && X.env.locals != X.env.globals))=false:=by rw [I.ok.kind];rfl
 have hiσ:i < Z.length:=by rw [I.len];exact (List.getElem?_eq_some_iff.mp hi).1
 have cne:=I.cne;have tracked:∀ {a:Addr}{h' : Heap},(∃ o,s.heap.get? a=some o/\H a=none)->Heap.SameBut a s.heap h'->HOk X.prog X.w H h':=fun {a h'} ha hs b ob e=>by
   obtain ⟨_,_,hfree⟩:=ha;refine (I.hok b ob e).zMK (fun c w' hc q=>(hs.2 c ?_).trans q) (fun _ q=>q) fun _ _ q=>q;rintro rfl;rcases hc with rfl | hc
   . rw [hfree] at e;cases e
   . rw [hfree] at hc;cases hc
 rcases hx with hk | hk
 . refine wpAny_storeName_local hk hn (fun h' hn' hs=>?_) hcls;obtain ⟨oL,_,_,hoL,_⟩:=id hn;refine h _ ⟨I.ok,I.os,I.bare,⟨fun b o e n hb hx=>?_,fun b o e n hb hx=>?_,I.base.free,fun b o e hx=>?_,I.base.tups,I.base.frzs,I.base.tbls⟩,⟨_,hn',fun j y v' e1 e2 e3=>?_⟩,fun y c e=>?_,I.free,I.freeC,fun p hp=>?_,tracked ⟨oL,hoL,I.free⟩ hs,by simpa using I.len⟩ ⟨_,hs,.inl rfl⟩
   . exact (hs.2 b (Nat.ne_of_lt (Nat.lt_of_lt_of_le (Heap.lt_size e) I.ok.above))).trans (I.base.keep b o e n hb hx)
   . obtain ⟨sl,e1⟩:=I.base.slot b o e n hb hx;exact ⟨sl,(hs.2 b (Nat.ne_of_lt (Nat.lt_of_lt_of_le (Heap.lt_size e) I.ok.above))).trans e1⟩
   . obtain ⟨o',e1⟩:=I.base.there b o e hx;exact ⟨o',(hs.2 b (Nat.ne_of_lt (Nat.lt_of_lt_of_le (Heap.lt_size e) I.ok.above))).trans e1⟩
   . by_cases hj:j=i
     . subst hj;rw [hi] at e1;cases e1;rw [List.getElem?_set_self hiσ] at e2;cases e2;exact ⟨u,r,.inl ⟨hk,by simp⟩⟩
     . rw [List.getElem?_set_ne (Ne.symm hj)] at e2;obtain ⟨u',r',q⟩:=hl j y v' e1 e2 e3;refine ⟨u',r',?_⟩;rcases q with ⟨k,e⟩ | ⟨k,c,e,z⟩
       . refine .inl ⟨k,?_⟩;have:y≠x:=fun e=>hj (zKt hN e1 (e ▸ hi));simp [this,e]
       . exact .inr ⟨k,c,e,z.sameBut hs (cne y c e)⟩
   . obtain ⟨w',z⟩:=I.cell y c e;exact ⟨w',z.sameBut hs (cne y c e)⟩
   . obtain ⟨e,n,ne,nf,d⟩:=I.pin p hp;exact ⟨(hs.2 p.1 ne).trans e,n,ne,nf,d⟩
 . have hfn:X.fn x=true:=by
     rcases hf with z | z
     . exact z
     . rw [z] at hk;cases hk
   obtain ⟨c,hc⟩:=I.ok.has x (.inl hk);obtain ⟨w',z⟩:=I.cell x c hc;refine wpAny_storeName_cell I.ok.kind hk hc z (fun h' hc' hs=>?_);obtain ⟨oc,hoc,hocd⟩:=id z;refine h { s with heap:=h' } ⟨I.ok,I.os,I.bare,⟨fun b o e n hb hx=>?_,fun b o e n hb hx=>?_,I.base.free,fun b o e hx=>?_,I.base.tups,I.base.frzs,I.base.tbls⟩,⟨m,hn.sameBut hs (Ne.symm (cne x c hc)),fun j y v' e1 e2 e3=>?_⟩,fun y c' e=>?_,I.free,I.freeC,fun p hp=>?_,tracked ⟨oc,hoc,I.freeC x c hc⟩ hs,by simpa using I.len⟩ ⟨c,hs,.inr hc⟩
   . exact (hs.2 b (Nat.ne_of_lt (Nat.lt_of_lt_of_le (Heap.lt_size e) (I.ok.cab x c hfn hc)))).trans (I.base.keep b o e n hb hx)
   . obtain ⟨sl,e1⟩:=I.base.slot b o e n hb hx;exact ⟨sl,(hs.2 b (Nat.ne_of_lt (Nat.lt_of_lt_of_le (Heap.lt_size e) (I.ok.cab x c hfn hc)))).trans e1⟩
   . obtain ⟨o',e1⟩:=I.base.there b o e hx;exact ⟨o',(hs.2 b (Nat.ne_of_lt (Nat.lt_of_lt_of_le (Heap.lt_size e) (I.ok.cab x c hfn hc)))).trans e1⟩
   . by_cases hj:j=i
     . subst hj;rw [hi] at e1;cases e1;rw [List.getElem?_set_self hiσ] at e2;cases e2;exact ⟨u,r,.inr ⟨.inl hk,c,hc,hc'⟩⟩
     . rw [List.getElem?_set_ne (Ne.symm hj)] at e2;obtain ⟨u',r',q⟩:=hl j y v' e1 e2 e3;refine ⟨u',r',?_⟩;rcases q with q | ⟨k,c',e,z'⟩
       . exact .inl q
       . refine .inr ⟨k,c',e,z'.sameBut hs ?_⟩;rintro rfl;exact hj (zKt hN e1 (I.ok.inj _ _ _ e hc ▸ hi))
   . by_cases hcc:c' = c
     . subst hcc;exact ⟨_,hc'⟩
     . obtain ⟨w2,z2⟩:=I.cell y c' e;exact ⟨w2,z2.sameBut hs hcc⟩
   . obtain ⟨e,n,ne,nf,d⟩:=I.pin p hp;refine ⟨(hs.2 p.1 ?_).trans e,n,ne,nf,d⟩;intro q;rw [q,hoc] at e;have q' : oc=p.2:=Option.some.inj e;exact d w' (by rw [<- q'];exact hocd)
theorem zHl {M:Model}{A:Around}{E:Y1}{i:Nat}{x:Str}{v:V}{u:Value}{Q:Unit->Shared->Prop}(I:Inv X pins Z H s)(hN:X.N.Nodup)(hi:X.N[i]? = some x)(hx:Loc X.env.scope x)(r:RelV v u)(h:∀ s',Inv X pins (Z.set i (some v)) H s'->Q () s')(hf:X.fn x=true\/X.env.scope.names.lookup x=some .local:=by first | exact .inl rfl | exact .inr rfl | assumption):wpAny M A (storeName X.env x u) Q E s :=
 zMN I hN hi hx r (fun s' I' _=>h s' I') hf
theorem Inv.zVS {s' : Shared}{ch:List Addr}(I:Inv X pins Z H s)(ho:s'.os=s.os)(u:Un (frs X.stack) ch H H' s.heap s'.heap)(hok:HOk X.prog X.w H' s'.heap)(hg:AllBare s'.gens)(hch:∀ b∈ch,(b∈X.ex\/X.s_0.heap.objs.size<=b)/\b≠X.env.locals/\(∀ x c,X.env.cells.lookup x=some c->c≠b)/\∀ p∈X.pn ++ pins,p.1≠b):Inv X pins Z H' s':=by obtain ⟨h',g',d',t',o'⟩:=s';have e:o' = s.os:=ho;subst e;exact I.call (g':=g') (t':=t') (d':=d') u hok hg hch
end
abbrev XK:=Value->Option Addr->Hp->Prop
abbrev St:=List (Option V)
abbrev VK:=V->Hp->Prop
abbrev TE:=St->Hp->VK->Prop
abbrev TT:=St->Hp->(Bool->Hp->Prop)->Prop
abbrev TA:=St->Hp->(List V->Hp->Prop)->Prop
structure Ends where
 nx:St->Hp->Prop
 rt:VK
 bk:St->Hp->Prop:=fun _ _=>False
 ct:St->Hp->Prop:=fun _ _=>False
abbrev TS:=Ends->St->Hp->Prop
inductive EP (X:Cx)(pins:Y2)(Z:St)(Q:VK)(u:Value)(s' : Shared):Prop | m (v:V)(H' : Hp)(_:Inv X pins Z H' s')(_:RelV v u)(_:Q v H')
inductive TP (X:Cx)(pins:Y2)(Z:St)(Q:Bool->Hp->Prop)(b:Bool)(s' : Shared):Prop | m (H' : Hp)(_:Inv X pins Z H' s')(_:Q b H')
inductive AP (X:Cx)(pins:Y2)(Z:St)(Q:List V->Hp->Prop)(us:List Value)(s' : Shared):Prop | m (vs:List V)(H' : Hp)(_:Inv X pins Z H' s')(_:Vals vs us)(_:Q vs H')
def SP (X:Cx)(pins:Y2)(D:Ends)(f:Flow)(s' : Shared):Prop :=
 match f with
 | .next=>∃ Z' H',Inv X pins Z' H' s'/\D.nx Z' H'
 | .brk=>∃ Z' H',Inv X pins Z' H' s'/\D.bk Z' H'
 | .cont=>∃ Z' H',Inv X pins Z' H' s'/\D.ct Z' H'
 | .ret u=>∃ v Z' H',Inv X pins Z' H' s'/\RelV v u/\D.rt v H'
def PE (X:Cx)(e:Expr)(t:TE):Prop :=
 ∀ (pins:Y2)(s:Shared)(Z:St)(H:Hp)(Q:VK),Inv X pins Z H s->t Z H Q->wpAny (model X.prog X.w) X.A (eval e X.env) (EP X pins Z Q) X.xe s
def PT (X:Cx)(e:Expr)(t:TT):Prop :=
 ∀ (pins:Y2)(s:Shared)(Z:St)(H:Hp)(Q:Bool->Hp->Prop),Inv X pins Z H s->t Z H Q->wpAny (model X.prog X.w) X.A (isTrue e X.env (eval e X.env)) (TP X pins Z Q) X.xe s
def PW (X:Cx)(e:Expr)(t:TT):Prop :=
 ∀ (whole:Sem Value)(pins:Y2)(s:Shared)(Z:St)(H:Hp)(Q:Bool->Hp->Prop),Inv X pins Z H s->t Z H Q->wpAny (model X.prog X.w) X.A (isTrue e X.env whole) (TP X pins Z Q) X.xe s
theorem PW.pt {X:Cx}{e:Expr}{t:TT}(h:PW X e t):PT X e t:=h _
def PA (X:Cx)(es:List Expr)(t:TA):Prop :=
 ∀ (pos:Pos)(pins:Y2)(s:Shared)(Z:St)(H:Hp)(Q:List V->Hp->Prop),Inv X pins Z H s->t Z H Q->wpAny (model X.prog X.w) X.A (spliced (backTo pos (starEach es X.env))) (AP X pins Z Q) X.xe s
def PS (X:Cx)(st:Stmt)(t:TS):Prop :=
 ∀ (pins:Y2)(s:Shared)(Z:St)(H:Hp)(D:Ends),Inv X pins Z H s->t D Z H->wpAny (model X.prog X.w) X.A (exec st X.env) (SP X pins D) X.xe s
def PSs (X:Cx)(st:List Stmt)(t:TS):Prop :=
 ∀ (pins:Y2)(s:Shared)(Z:St)(H:Hp)(D:Ends),Inv X pins Z H s->t D Z H->wpAny (model X.prog X.w) X.A (execs st X.env) (SP X pins D) X.xe s
theorem thn {α:Type}{t:Sem α}{Q Q' : α->Shared->Prop}{M:Model}{A:Around}{E:Y1}{s:Shared}(h:wpAny M A t Q E s)(hQ:∀ a s,Q a s->Q' a s):wpAny M A t Q' E s:=wpAny_mono h hQ fun _ _ x=>x
section
variable {X:Cx}
def zFr (i:Nat):TE:=fun Z H Q=>∃ v,Z[i]? = some (some v)/\Q v H
def tC (v:V):TE:=fun _ H Q=>Q v H
theorem zWs {i:Nat}{x:Str}{pos:Pos}(hN:X.N[i]? = some x)(hv:Vis X.env.scope x)(hd:(x == ("__debug__" : Str))=false:=by decide)(hcd:(x == ("__classdict__" : Str))=false:=by decide):PE X (.Name x pos) (zFr i):=by
 intro pins s Z H Q I h;obtain ⟨v,e,h⟩:=h;obtain ⟨m,hn,hl⟩:=I.loc;obtain ⟨u,r,l⟩:=hl i x v hN e hv;have fin:EP X pins Z Q u s:=⟨v,H,I,r,h⟩;rcases l with ⟨hk,hm⟩ | ⟨hk,c,hc,hcell⟩
 . exact wpAny_Name (wpAny_loadName_local I.ok.kind hk hn hm fin) hd
 . rcases hk with hk | hk
   . exact wpAny_Name (wpAny_loadName_cell I.ok.kind hk hc hcell fin) hd
   . exact wpAny_Name (wpAny_loadName_free I.ok.kind hk hc hcell fin hcd) hd
theorem zM {i j pos}:PE X (.Constant (.int i) j pos) (tC (.int i)):=fun _ _ _ H _ I h=>wpAny_Constant_int ⟨.int i,H,I.tok _,⟨_,rfl⟩,h⟩
theorem zP0 {b j pos}:PE X (.Constant (.bool b) j pos) (tC (.bl b)):=fun _ _ _ H _ I h=>Constant_bool ⟨.bl b,H,I,rfl,h⟩
theorem zWt {j pos}:PE X (.Constant .none j pos) (tC .non):=fun _ _ _ H _ I h=>Constant_none ⟨.non,H,I,rfl,h⟩
def Gl (X:Cx)(x:Str):Prop:=X.env.kindOf x=some .globalImplicit
theorem zDj {E:Y1}{pins:Y2}{s:Shared}{Z:St}{H:Hp}{x:Str}{u:Value}{pos:Pos}{Q:Y1}(I:Inv X pins Z H s)(hg:Gl X x)(hm:X.mg x=some u)(h:Q u s)(hd:(x == ("__debug__" : Str))=false:=by decide):wpAny (model X.prog X.w) X.A (eval (.Name x pos) X.env) Q E s :=
 Calls.Name_function_global I.ok.kind hg (Calls.loadGlobal_global (by rw [I.ok.glob];exact I.mod.glob.keeps I.bk) hm h) hd
theorem zHz {E:Y1}{pins:Y2}{s:Shared}{Z:St}{H:Hp}{x:Str}{u:Value}{pos:Pos}{Q:Y1}(I:Inv X pins Z H s)(hg:Gl X x)(hm:X.mg x=none)(hv:bootBuiltins x=some u)(h:Q u s)(hn:x≠"__name__":=by decide)(hd:(x == ("__debug__" : Str))=false:=by decide):wpAny (model X.prog X.w) X.A (eval (.Name x pos) X.env) Q E s:=by obtain ⟨mb,h1,h2⟩:=I.mod.blt;exact Calls.Name_function_global I.ok.kind hg (Calls.loadGlobal_builtin (by rw [I.ok.glob];exact I.mod.glob.keeps I.bk) hm (by rw [I.ok.blt];exact h1.keeps I.bk) ((h2 x hn).trans hv) h) hd
theorem zRC {x:Str}{v:V}{u:Value}{pos:Pos}(hg:Gl X x)(hm:X.mg x=some u)(r:RelV v u)(hd:(x == ("__debug__" : Str))=false:=by decide):PE X (.Name x pos) (tC v) :=
 fun _ _ _ H _ I h=>zDj I hg hm ⟨v,H,I,r,h⟩ hd
def t2I (ta tb:TE)(k:Int->Int->Hp->Prop):St->Hp->Prop:=fun Z H=>ta Z H fun x H1=>tb Z H1 fun y H2=>∃ i j,x=.int i/\y=.int j/\k i j H2
variable {a b:Expr}{ta tb:TE}{pos:Pos}
def PC (X:Cx)(op:CmpOp)(a b:Expr)(t:TE):Prop :=
 ∀ (pins:Y2)(s:Shared)(Z:St)(H:Hp)(Q:VK),Inv X pins Z H s->t Z H Q->
   wpAny (model X.prog X.w) X.A (eval a X.env) (fun v s₁=>wpAny (model X.prog X.w) X.A (eval b X.env) (fun u s₂=>wpAny (model X.prog X.w) X.A (compareOp op v u) (EP X pins Z Q) X.xe s₂) X.xe s₁) X.xe s
theorem zTU (b:Expr){op:CmpOp}(h:op≠.In)(h2:op≠.NotIn):behindInMarks op b=false:=by
 have e1:(op == CmpOp.In)=false:=by cases op <;> first | rfl | exact absurd rfl h
 have e2:(op == CmpOp.NotIn)=false:=by cases op <;> first | rfl | exact absurd rfl h2
 cases b <;> simp [behindInMarks,e1,e2]
def zYN (p:Int->Int->Bool)(ta tb:TE):TE:=fun Z H Q=>t2I ta tb (fun i j H2=>Q (.bl (p i j)) H2) Z H
def zX6 (ta:TE):TE:=fun Z H Q=>ta Z H fun x H1=>Q (.bl (decide (x=.non))) H1
def zVT (ta:TE):TE:=fun Z H Q=>ta Z H fun x H1=>Q (.bl (!decide (x=.non))) H1
theorem RelV.zTV {x:V}{v:Value}(r:RelV x v):(v == Value.none)=decide (x=.non):=by
 cases x with
 | non=>cases r;rfl
 | bl _=>cases r;rfl
 | int _=>obtain ⟨t,rfl⟩:=r;rfl
 | str _=>obtain ⟨t,rfl⟩:=r;rfl
 | byt _=>obtain ⟨t,rfl⟩:=r;rfl
 | flt _=>obtain ⟨t,rfl⟩:=r;rfl
 | ref _=>cases r;rfl
 | ty _=>cases r;rfl
theorem zWu {j pos'}(ha:PE X a ta):PC X .Is a (.Constant .none j pos') (zX6 ta):=by intro pins s Z H Q I h;refine thn (ha pins s Z H _ I h) ?_;rintro v s1 ⟨x,H1,I1,r1,q1⟩;exact Constant_none (is_none_gen ⟨.bl _,H1,I1,by rw [r1.zTV];rfl,q1⟩)
def tB (t:TE):TT:=fun Z H Q=>t Z H fun x H1=>∃ c,x=.bl c/\Q c H1
theorem zOm {op:CmpOp}{t:TE}(h:PC X op a b t)(h1:behindInMarks op b=false:=by first | exact zTU _ (by decide) (by decide) | rfl):PT X (.Compare a [op] [b] pos) (tB t):=by intro pins s Z H Q I hw;refine wpAny_isTrue_Compare1 (thn (h pins s Z H _ I hw) fun v s1 h1=>thn h1 fun u s2 h2=>thn h2 fun c s3 ⟨x,H1,I1,r1,q1⟩=>?_) h1;obtain ⟨d,rfl,q⟩:=q1;cases r1;exact wpAny_truthy_bool ⟨H1,I1,q⟩
variable {tA tB' : TT}{rest:List Expr}
def zX7 (t u:TT):TT:=fun Z H Q=>t Z H fun c H1=>if c=true then u Z H1 Q else Q false H1
def tOr (t u:TT):TT:=fun Z H Q=>t Z H fun c H1=>if c=true then Q true H1 else u Z H1 Q
def zX8 (t:TT):TT:=fun Z H Q=>t Z H fun c H1=>Q (!c) H1
theorem zH0 (ha:PT X a tA):PW X (.BoolOp .And [a] pos) tA:=by
 intro wh pins s Z H Q I h;refine isTrue_and (thn (ha pins s Z H Q I h) fun c s1 e=>?_);cases c with
 | true=>exact isTrue_and_nil e
 | false=>exact e
theorem zOn (ha:PT X a tA):PW X (.BoolOp .Or [a] pos) tA:=by
 intro wh pins s Z H Q I h;refine isTrue_or (thn (ha pins s Z H Q I h) fun c s1 e=>?_);cases c with
 | false=>exact isTrue_or_nil e
 | true=>exact e
theorem zJ7 (ha:PT X a tA)(hb:PW X (.BoolOp .And (b :: rest) pos) tB'):PW X (.BoolOp .And (a :: b :: rest) pos) (zX7 tA tB'):=by
 intro wh pins s Z H Q I h;refine isTrue_and (thn (ha pins s Z H _ I h) ?_);rintro c s1 ⟨H1,I1,q1⟩;cases c with
 | true=>exact hb wh pins s1 Z H1 Q I1 q1
 | false=>exact ⟨H1,I1,q1⟩
theorem zRD (ha:PT X a tA)(hb:PW X (.BoolOp .Or (b :: rest) pos) tB'):PW X (.BoolOp .Or (a :: b :: rest) pos) (tOr tA tB'):=by
 intro wh pins s Z H Q I h;refine isTrue_or (thn (ha pins s Z H _ I h) ?_);rintro c s1 ⟨H1,I1,q1⟩;cases c with
 | true=>exact ⟨H1,I1,q1⟩
 | false=>exact hb wh pins s1 Z H1 Q I1 q1
theorem zDa (ha:PT X a tA):PT X (.UnaryOp .Not a pos) (zX8 tA):=by intro pins s Z H Q I h;exact isTrue_not (thn (ha pins s Z H (fun c H1=>Q (!c) H1) I h) fun _ _ ⟨H',i,q⟩=>⟨H',i,q⟩)
def zTW (ta tb:TE):TE:=fun Z H Q=>ta Z H fun x H1=>∃ c,x=.bl c/\if c=true then tb Z H1 Q else Q (.bl false) H1
def zX9 (ta tb:TE):TE:=fun Z H Q=>ta Z H fun x H1=>∃ c,x=.bl c/\if c=true then Q (.bl true) H1 else tb Z H1 Q
def zVU (ta:TE):TE:=fun Z H Q=>ta Z H fun x H1=>∃ c,x=.bl c/\Q (.bl (!c)) H1
theorem zRE {op}{t:TE}(h:PE X a t):PE X (.BoolOp op [a] pos) t:=fun pins s Z H Q I hw=>BoolOp_one (h pins s Z H Q I hw)
theorem zWv (ha:PE X a ta)(hb:PE X (.BoolOp .And (b :: rest) pos) tb):PE X (.BoolOp .And (a :: b :: rest) pos) (zTW ta tb):=by
 intro pins s Z H Q I h;refine BoolOp_and (thn (ha pins s Z H _ I h) ?_);rintro v s1 ⟨x,H1,I1,r1,q1⟩;obtain ⟨c,rfl,q1⟩:=q1;cases r1;refine wpAny_truthy_bool ?_;cases c with
 | true=>exact hb pins s1 Z H1 Q I1 q1
 | false=>exact ⟨.bl false,H1,I1,rfl,q1⟩
theorem zWw (ha:PE X a ta)(hb:PE X (.BoolOp .Or (b :: rest) pos) tb):PE X (.BoolOp .Or (a :: b :: rest) pos) (zX9 ta tb):=by
 intro pins s Z H Q I h;refine BoolOp_or (thn (ha pins s Z H _ I h) ?_);rintro v s1 ⟨x,H1,I1,r1,q1⟩;obtain ⟨c,rfl,q1⟩:=q1;cases r1;refine wpAny_truthy_bool ?_;cases c with
 | false=>exact hb pins s1 Z H1 Q I1 q1
 | true=>exact ⟨.bl true,H1,I1,rfl,q1⟩
def tIf (t:TT)(ta tb:TE):TE:=fun Z H Q=>t Z H fun c H1=>if c=true then ta Z H1 Q else tb Z H1 Q
theorem zTX {c:Expr}(hc:PT X c tA)(ha:PE X a ta)(hb:PE X b tb):PE X (.IfExp c a b pos) (tIf tA ta tb):=by
 intro pins s Z H Q I h;refine wpAny_IfExp (thn (hc pins s Z H _ I h) ?_);rintro d s1 ⟨H1,I1,q1⟩;cases d with
 | true=>exact ha pins s1 Z H1 Q I1 q1
 | false=>exact hb pins s1 Z H1 Q I1 q1
end
def SqL (K:Fg)(H:Hp)(a:Addr)(xs:List V):Prop :=
 Rd H a (.lst xs)\/
   ∃ (o:Obj)(its:Array Value)(n:Nat),K.lookup a=some o/\o.cls=.type "list"/\o.dict=none/\o.data=.seq its n/\its.size<=sizeLine/\Vals xs its.toList
def SqT (K:Fg)(H:Hp)(a:Addr)(xs:List V):Prop :=
 Rd H a (.tup xs)\/
   ∃ (o:Obj)(its:Array Value)(n:Nat),K.lookup a=some o/\o.cls=.type "tuple"/\o.data=.seq its n/\its.size<=sizeLine/\Vals xs its.toList
def zZN:Value->Option V
 | .none=>some .non
 | .bool b=>some (.bl b)
 | .int i _=>some (.int i)
 | .str x _=>some (.str x)
 | .bytes b _=>some (.byt b)
 | .float b _=>some (.flt b)
 | .ref a=>some (.ref a)
 | .type n=>some (.ty n)
 | _=>none
theorem RelV.abs {x:V}{u:Value}(r:RelV x u):zZN u=some x:=by
 cases x with
 | non=>cases r;rfl
 | bl _=>cases r;rfl
 | int _=>obtain ⟨t,rfl⟩:=r;rfl
 | str _=>obtain ⟨t,rfl⟩:=r;rfl
 | byt _=>obtain ⟨t,rfl⟩:=r;rfl
 | flt _=>obtain ⟨t,rfl⟩:=r;rfl
 | ref _=>cases r;rfl
 | ty _=>cases r;rfl
theorem RelV.inj {x y:V}{u:Value}(r:RelV x u)(q:RelV y u):x=y:=Option.some.inj (r.abs.symm.trans q.abs)
theorem Vals.inj:∀ {xs ys:List V}{us:List Value},Vals xs us->Vals ys us->xs=ys
 | _,_,_,.nil,.nil=>rfl
 | _,_,_,.cons r t,.cons r' t'=>by rw [r.inj r',Vals.inj t t']
section
variable {X:Cx}{pins:Y2}{Z:St}{H:Hp}{s:Shared}{a:Addr}{xs ys:List V}
theorem SqL.of {K:Fg}(h:H a=some (.lst xs)):SqL K H a xs:=.inl (.inl h)
theorem SqT.of {K:Fg}(h:H a=some (.tup xs)):SqT K H a xs:=.inl (.inl h)
theorem Inv.list (I:Inv X pins Z H s)(h:SqL X.K H a xs):∃ its:List Value,Vals xs its/\PlainL s.heap a its.toArray/\xs.length<=sizeLine:=by
 rcases h with h | ⟨o,its,n,hk,hc,hd,hs,hz,r⟩
 . obtain ⟨z,its,n,r,e⟩:=h.ok I.hok;exact ⟨its,r,⟨_,n,e,rfl,rfl,rfl⟩,z⟩
 . refine ⟨its.toList,r,⟨o,n,I.kIn a o hk,hc,hd,by simpa using hs⟩,?_⟩;have e:=r.length;simp only [Array.length_toList] at e;omega
theorem Inv.tuple (I:Inv X pins Z H s)(h:SqT X.K H a xs):∃ its:List Value,Vals xs its/\IsTup s.heap a its.toArray/\xs.length<=sizeLine:=by
 rcases h with h | ⟨o,its,n,hk,hc,hs,hz,r⟩
 . obtain ⟨z,its,r,p⟩:=h.ok I.hok;exact ⟨its,r,p,z⟩
 . refine ⟨its.toList,r,⟨o,I.kIn a o hk,hc,n,by simpa using hs⟩,?_⟩;have e:=r.length;simp only [Array.length_toList] at e;omega
theorem Inv.zKu (I:Inv X pins Z H s)(h:SqL X.K H a xs)(h' : SqL X.K H a ys):xs=ys:=by obtain ⟨its,r,⟨o,n,e,_,_,d⟩,_⟩:=I.list h;obtain ⟨its',r',⟨o',n',e',_,_,d'⟩,_⟩:=I.list h';rw [e] at e';cases e';rw [d] at d';injection d' with d1 _;have:its=its':=(by simpa using congrArg Array.toList d1);subst this;exact r.inj r'
theorem Inv.zMO (I:Inv X pins Z H s)(h:SqT X.K H a xs)(h' : SqT X.K H a ys):xs=ys:=by obtain ⟨its,r,⟨o,e,_,n,d⟩,_⟩:=I.tuple h;obtain ⟨its',r',⟨o',e',_,n',d'⟩,_⟩:=I.tuple h';rw [e] at e';cases e';rw [d] at d';injection d' with d1 _;have:its=its':=(by simpa using congrArg Array.toList d1);subst this;exact r.inj r'
end
abbrev Cx.zP1 (X:Cx)(E:Y1):Cx:={ X with xe:=E }
abbrev Cx.nox (X:Cx):Cx:=X.zP1 fun _ _=>False
theorem Cx.Ok.zP1 {X:Cx}(ok:X.Ok)(E:Y1):(X.zP1 E).Ok :=
 ⟨ok.mod,ok.kind,ok.glob,ok.blt,ok.above,ok.inj,ok.has,ok.cab,ok.hd,ok.frames,ok.stk,ok.exf,ok.bs,ok.bsz,ok.noex,ok.exfs,ok.zML,ok.frf⟩
theorem Cx.Ok.zHC {X:Cx}{E:Y1}(ok:(X.zP1 E).Ok):X.Ok :=
 ⟨ok.mod,ok.kind,ok.glob,ok.blt,ok.above,ok.inj,ok.has,ok.cab,ok.hd,ok.frames,ok.stk,ok.exf,ok.bs,ok.bsz,ok.noex,ok.exfs,ok.zML,ok.frf⟩
section
variable {X:Cx}{pins:Y2}{Z:St}{H:Hp}{s:Shared}{E:Y1}
theorem Inv.zP1 (I:Inv X pins Z H s)(E:Y1):Inv (X.zP1 E) pins Z H s:=⟨I.ok.zP1 E,I.os,I.bare,I.base,I.loc,I.cell,I.free,I.freeC,I.pin,I.hok,I.len⟩
theorem Inv.zHC (I:Inv (X.zP1 E) pins Z H s):Inv X pins Z H s:=⟨I.ok.zHC,I.os,I.bare,I.base,I.loc,I.cell,I.free,I.freeC,I.pin,I.hok,I.len⟩
theorem SP.zHC {D:Ends}{f:Flow}{s' : Shared}(h:SP (X.zP1 E) pins D f s'):SP X pins D f s':=by
 cases f with
 | next=>obtain ⟨Z',H',I,q⟩:=h;exact ⟨Z',H',I.zHC,q⟩
 | brk=>obtain ⟨Z',H',I,q⟩:=h;exact ⟨Z',H',I.zHC,q⟩
 | cont=>obtain ⟨Z',H',I,q⟩:=h;exact ⟨Z',H',I.zHC,q⟩
 | ret u=>obtain ⟨v,Z',H',I,r,q⟩:=h;exact ⟨v,Z',H',I.zHC,r,q⟩
theorem PSs.nox {st:List Stmt}{t:TS}(h:PSs X.nox st t):PSs X st t:=fun pins s Z H D I hw =>
 wpAny_mono (h pins s Z H D (I.zP1 _) hw) (fun _ _ q=>q.zHC) fun _ _ z=>False.elim z
end
section
variable {X:Cx}{st:Stmt}{rest:List Stmt}{t u:TS}{e:Expr}{te:TE}{pos:Pos}
def zTY:TS:=fun D Z H=>D.nx Z H
def Zv (t u:TS):TS:=fun D Z H=>t { D with nx:=u D } Z H
theorem zR:PSs X [] zTY:=fun _ _ Z H _ I h=>wpAny_execs_nil ⟨Z,H,I,h⟩
theorem zC (h1:PS X st t)(h2:PSs X rest u):PSs X (st :: rest) (Zv t u):=by
 intro pins s Z H D I h;refine wpAny_execs_cons (thn (h1 pins s Z H { D with nx:=u D } I h) fun f s1 q=>?_);cases f with
 | next =>obtain ⟨Z',H',I',q⟩:=q;exact h2 pins s1 Z' H' D I' q
 | ret v=>exact q
 | brk=>exact q
 | cont=>exact q
theorem zE (h1:PS X st t):PSs X [st] t:=by
 intro pins s Z H D I h;refine wpAny_execs_cons (thn (h1 pins s Z H D I h) fun f s1 q=>?_);cases f with
 | next=>exact wpAny_execs_nil q
 | ret v=>exact q
 | brk=>exact q
 | cont=>exact q
theorem Inv.quiet {pins:Y2}{Z:St}{H:Hp}{s:Shared}(I:Inv X pins Z H s):interactive X.env=false:=by simp [interactive,I.ok.kind]
def zP2 (te:TE):TS:=fun D Z H=>te Z H fun _ H1=>D.nx Z H1
theorem z7 (he:PE X e te)(hs:swapsWith e none pos.line X.env=pure false:=by rfl):PS X (.Expr e pos) (zP2 te):=by intro pins s Z H D I h;exact wpAny_Expr_any (thn (he pins s Z H _ I h) fun v s1 ⟨x,H1,I1,r1,q1⟩=>⟨Z,H1,I1,q1⟩) I.quiet hs
def zHD (te:TE):TS:=fun D Z H=>te Z H D.rt
theorem zN (he:PE X e te):PS X (.Return (some e) pos) (zHD te):=by intro pins s Z H D I h;exact wpAny_Return_some (thn (he pins s Z H _ I h) fun v s1 ⟨x,H1,I1,r1,q1⟩=>⟨x,Z,H1,I1,r1,q1⟩)
def zVV:TS:=fun D _ H=>D.rt .non H
def zWx (c:TT)(t u:TS):TS:=fun D Z H=>c Z H fun b H1=>if b=true then t D Z H1 else u D Z H1
theorem z6 {c:Expr}{a b:List Stmt}{tc:TT}(hc:PT X c tc)(ha:PSs X a t)(hb:PSs X b u):PS X (.If c a b pos) (zWx tc t u):=by
 intro pins s Z H D I h;refine wpAny_If (thn (hc pins s Z H _ I h) ?_);rintro d s1 ⟨H1,I1,q1⟩;cases d with
 | true=>exact ha pins s1 Z H1 D I1 q1
 | false=>exact hb pins s1 Z H1 D I1 q1
def zWy:TS:=fun _ _ _=>False
theorem zTZ:PS X st zWy:=fun _ _ _ _ _ _ h=>h.elim
end
abbrev TG:=V->St->Hp->(St->Hp->Prop)->Prop
abbrev TGs:=List V->St->Hp->(St->Hp->Prop)->Prop
def PG (X:Cx)(target:Expr)(t:TG):Prop :=
 ∀ (pins:Y2)(s:Shared)(Z:St)(H:Hp)(v:V)(u:Value)(Q:St->Hp->Prop),Inv X pins Z H s->RelV v u->t v Z H Q->
   wpAny (model X.prog X.w) X.A (assign target X.env u) (fun _ s'=>∃ Z' H',Inv X pins Z' H' s'/\Q Z' H') X.xe s
def PGs (X:Cx)(ts:List Expr)(t:TGs):Prop :=
 ∀ (pins:Y2)(s:Shared)(Z:St)(H:Hp)(vs:List V)(us:List Value)(Q:St->Hp->Prop),Inv X pins Z H s->Vals vs us->t vs Z H Q->
   wpAny (model X.prog X.w) X.A (assignInOrder ((assignEach ts X.env).map (·.2)) us) (fun _ s'=>∃ Z' H',Inv X pins Z' H' s'/\Q Z' H') X.xe s
abbrev zYO:=V->V->V->Hp->(Hp->Prop)->Prop
def zYz (X:Cx)(t:zYO):Prop :=
 ∀ (pins:Y2)(s:Shared)(Z:St)(H:Hp)(o i v:V)(ov iv u:Value)(Q:Hp->Prop),Inv X pins Z H s->RelV o ov->RelV i iv->RelV v u->t o i v H Q->
   wpAny (model X.prog X.w) X.A (setItem ov iv u) (fun _ s'=>∃ H',Inv X pins Z H' s'/\Q H') X.xe s
abbrev TIp:=V->V->Hp->VK->Prop
def PIp (X:Cx)(op:Operator)(t:TIp):Prop :=
 ∀ (pins:Y2)(s:Shared)(Z:St)(H:Hp)(x y:V)(v u:Value)(Q:VK),Inv X pins Z H s->RelV x v->RelV y u->t x y H Q->
   wpAny (model X.prog X.w) X.A (inplaceOp op v u) (EP X pins Z Q) X.xe s
section
variable {X:Cx}{pos:Pos}
def zE9 (i:Nat):TG:=fun v Z H Q=>Q (Z.set i (some v)) H
theorem z8 {i:Nat}{x:Str}(hN:X.N.Nodup)(hi:X.N[i]? = some x)(hx:Loc X.env.scope x)(hf:X.fn x=true\/X.env.scope.names.lookup x=some .local:=by first | exact .inl rfl | exact .inr rfl | assumption):PG X (.Name x pos) (zE9 i):=by intro pins s Z H v u Q I r h;exact wpAny_assign_Name (zHl I hN hi hx r (fun s' I'=>⟨_,H,I',h⟩) hf)
def zYP:TGs:=fun vs Z H Q=>vs=[]/\Q Z H
def zTa (t:TG)(u:TGs):TGs:=fun vs Z H Q=>∃ v r,vs=v :: r/\t v Z H fun Z' H'=>u r Z' H' Q
theorem zGg:PGs X [] zYP:=by intro pins s Z H vs us Q I r h;obtain ⟨e,h⟩:=h;subst e;cases r;exact assignInOrder_nil ⟨Z,H,I,h⟩
theorem Zk {e:Expr}{es:List Expr}{t:TG}{u:TGs}(h1:PG X e t)(h2:PGs X es u)(hs:(assignEach (e :: es) X.env).map (·.2)=assign e X.env :: (assignEach es X.env).map (·.2):=by rfl):PGs X (e :: es) (zTa t u):=by
 intro pins s Z H vs us Q I r h;obtain ⟨v,vr,e1,h⟩:=h;subst e1;cases r with
 | cons r rr =>rw [hs];refine assignInOrder_cons (thn (h1 pins s Z H _ _ _ I r h) ?_);rintro _ s1 ⟨σ1,H1,I1,q1⟩;exact h2 pins s1 σ1 H1 _ _ Q I1 rr q1
def zYQ (K:Fg)(n:Nat)(t:TGs):TG:=fun v Z H Q=>∃ a xs,v=.ref a/\SqT K H a xs/\xs.length=n/\t xs Z H Q
theorem zJ8 {es:List Expr}{k:Nat}{t:TGs}{n:Nat}(hc:X.calm=true)(h:PGs X es t)(hn:(assignEach es X.env).length=n:=by rfl)(hst:(assignEach es X.env).findIdx? (·.1)=none:=by rfl):PG X (.Tuple es k pos) (zYQ X.K n t):=by intro pins s Z H v u Q I r hw;obtain ⟨a,xs,e1,hq,hl,hw⟩:=hw;subst e1;cases r;obtain ⟨its,rv,ht,hz⟩:=I.tuple hq;refine assign_Tuple_tuple (I.ok.hd hc) ht (by simp [hn,<- hl,rv.length]) hst fun h' hx=>?_;have I1:Inv X pins Z H { s with heap:=h' }:=I.kept (t':=s.toks) fun b o e=>hx b o (Nat.ne_of_lt (Heap.lt_size e)) e;exact h pins _ Z H xs _ Q I1 (by simpa using rv) hw
def zY0 (to ti:TE)(t:zYO):TG:=fun v Z H Q=>to Z H fun o H1=>ti Z H1 fun i H2=>t o i v H2 fun H3=>Q Z H3
theorem zWz {o i:Expr}{to ti:TE}{t:zYO}(ho:PE X o to)(hi:PE X i ti)(hs:zYz X t)(ha:∀ v,assign (.Subscript o i pos) X.env v=(do
     let ov <- holding [v] (eval o X.env)
     let iv <- holding [v,ov] (eval i X.env)
     standAt pos
     holding [v,ov,iv] (setItem ov iv v)
     release [v,ov,iv] []):=by intro _;rfl):PG X (.Subscript o i pos) (zY0 to ti t):=by
 intro pins s Z H v u Q I r h;rw [ha];refine wpAny_bind (wpAny_holding (thn (ho pins s Z H _ I h) ?_));rintro ov s1 ⟨x,H1,I1,r1,q1⟩;refine wpAny_bind (wpAny_holding (thn (hi pins s1 Z H1 _ I1 q1) ?_));rintro iv s2 ⟨y,H2,I2,r2,q2⟩;refine wpAny_bind (wpAny_standAt (wpAny_bind (wpAny_holding (thn (hs pins s2 Z H2 x y v ov iv u _ I2 r1 r2 r q2) ?_))));rintro _ s3 ⟨H3,I3,q3⟩;exact wpAny_release ⟨Z,H3,I3,q3⟩
def zVW (te:TE)(g:TG):TS:=fun D Z H=>te Z H fun x H1=>g x Z H1 D.nx
theorem zW0 {tg e:Expr}{te:TE}{g:TG}(he:PE X e te)(hg:PG X tg g)(hs:swapsWithSole [tg] e pos.line X.env=pure false:=by rfl)(hw:swappedStores [tg] e X.env=pure none:=by rfl)(h1:(assignEach [tg] X.env).map (·.2)=[assign tg X.env]:=by rfl):PS X (.Assign [tg] e pos) (zVW te g):=by intro pins s Z H D I h;refine wpAny_Assign_stores (thn (he pins s Z H _ I h) ?_) hs hw;rintro v s1 ⟨x,H1,I1,r1,q1⟩;rw [h1];exact thn (hg pins s1 Z H1 x v _ I1 r1 q1) fun _ s2 q=>q
theorem zMP {i:Nat}{x:Str}{e:Expr}{te:TE}{pos' : Pos}(hN:X.N.Nodup)(hi:X.N[i]? = some x)(hx:Loc X.env.scope x)(he:PE X e te)(hs:swapsWith e (some (.Name x pos')) pos.line X.env=pure false:=by rfl)(hf:X.fn x=true\/X.env.scope.names.lookup x=some .local:=by first | exact .inl rfl | exact .inr rfl | assumption) : PS X (.Assign [.Name x pos'] e pos) (zVW te (zE9 i)):=by intro pins s Z H D I h;refine wpAny_Assign_Name (thn (he pins s Z H _ I h) ?_) hs;rintro v s1 ⟨y,H1,I1,r1,q1⟩;exact zHl I1 hN hi hx r1 (fun s2 I2=>⟨_,H1,I2,q1⟩) hf
def zYA (i:Nat)(te:TE)(ti:TIp):TS:=fun D Z H=>∃ x,Z[i]? = some (some x)/\te Z H fun y H1=>ti x y H1 fun z H2=>D.nx (Z.set i (some z)) H2
theorem zOo {i:Nat}{x:Str}{e:Expr}{te:TE}{op:Operator}{ti:TIp}{pos' : Pos}(hN:X.N.Nodup)(hi:X.N[i]? = some x)(hx:Loc X.env.scope x)(he:PE X e te)(ho:PIp X op ti)(hf:X.fn x=true\/X.env.scope.names.lookup x=some .local:=by first | exact .inl rfl | exact .inr rfl | assumption) : PS X (.AugAssign (.Name x pos') op e pos) (zYA i te ti):=by
 intro pins s Z H D I h;obtain ⟨v,e1,h⟩:=h;obtain ⟨m,hn,hl⟩:=I.loc;have vis:Vis X.env.scope x:=by rcases hx with k | k;exact .inl k;exact .inr (.inl k)
 obtain ⟨u,r,l⟩:=hl i x v hi e1 vis;refine wpAny_AugAssign_Name ?_;have go:wpAny (model X.prog X.w) X.A (eval e X.env) (fun w s₂=>wpAny (model X.prog X.w) X.A (inplaceOp op u w) (fun r s₃=>wpAny (model X.prog X.w) X.A (storeName X.env x r) (fun _=>SP X pins D .next) X.xe s₃) X.xe s₂) X.xe s:=by refine thn (he pins s Z H _ I h) ?_;rintro w s1 ⟨y,H1,I1,r1,q1⟩;refine thn (ho pins s1 Z H1 v y u w _ I1 r r1 q1) ?_;rintro z s2 ⟨zv,H2,I2,r2,q2⟩;exact zHl I2 hN hi hx r2 (fun s3 I3=>⟨_,H2,I3,q2⟩) hf
 rcases l with ⟨hk,hm⟩ | ⟨hk,c,hc,hcell⟩
 . exact wpAny_loadName_local I.ok.kind hk hn hm go
 . rcases hk with hk | hk
   . exact wpAny_loadName_cell I.ok.kind hk hc hcell go
   . rcases hx with k | k
     . have:X.env.scope.names.lookup x=some .free:=hk;rw [k] at this;cases this
     . have:X.env.scope.names.lookup x=some .free:=hk;rw [k] at this;cases this
def ipI (f:Int->Int->Int):TIp:=fun x y H Q=>∃ i j,x=.int i/\y=.int j/\Q (.int (f i j)) H
theorem zOp:PIp X .Add (ipI fun i j=>i+j):=by intro pins s Z H x y v u Q I r1 r2 h;obtain ⟨i,j,e1,e2,q⟩:=h;subst e1;subst e2;obtain ⟨t,rfl⟩:=r1;obtain ⟨t',rfl⟩:=r2;exact iadd_int ⟨.int _,H,I.tok _,⟨_,rfl⟩,q⟩
end
section
variable {X:Cx}{pos:Pos}
def zUg (c:TT)(tb:TS):TS:=fun D Z H=>∃ W:Nat->St->Hp->Prop,(∃ m,W m Z H)/\∀ m Z H,W m Z H->
 c Z H fun b H1=>if b=true then ∃ N:St->Hp->Prop,(∀ Z' H',N Z' H'->∃ m',m' < m/\W m' Z' H')/\tb { D with nx:=N,ct:=N,bk:=D.nx } Z H1 else D.nx Z H1
theorem zEl {c:Expr}{body:List Stmt}{tc:TT}{tb:TS}(hp:PassesOwn (model X.prog X.w) X.A X.env X.xe)(hc:PT X c tc)(hb:PSs X body tb):PS X (.While c body [] pos) (zUg tc tb):=by
 intro pins s Z H D I h;obtain ⟨W,⟨m0,w0⟩,turn⟩:=h;refine wpAny_While (codeAny_whileLoop (fun n s'=>∃ Z' H',Inv X pins Z' H' s'/\W n Z' H') ?_ m0 ⟨Z,H,I,w0⟩);rintro n s1 ⟨σ1,H1,I1,w1⟩;refine wpAny_passesOwn hp (thn (hc pins s1 σ1 H1 _ I1 (turn n σ1 H1 w1)) ?_);rintro b s2 ⟨H2,I2,q2⟩;cases b with
 | true =>
   obtain ⟨N,hN,q2⟩:=q2;rw [if_pos rfl];refine wpAny_passesOwn hp (thn (hb pins s2 σ1 H2 _ I2 q2) fun f s3 q3=>?_);cases f with
   | next =>obtain ⟨σ3,H3,I3,n3⟩:=q3;obtain ⟨m',hm,w3⟩:=hN σ3 H3 n3;exact ⟨m',hm,σ3,H3,I3,w3⟩
   | cont =>obtain ⟨σ3,H3,I3,n3⟩:=q3;obtain ⟨m',hm,w3⟩:=hN σ3 H3 n3;exact ⟨m',hm,σ3,H3,I3,w3⟩
   | brk=>exact q3
   | ret v=>exact q3
 | false =>rw [if_neg Bool.false_ne_true];exact wpAny_execs_nil ⟨σ1,H2,I2,q2⟩
end
structure It where
 go:Nat->Hp->Prop
 yld:Nat->Hp->V->Hp->Prop
 stop:Nat->Hp->Prop
def zRF (X:Cx)(pins:Y2)(H:Hp)(b:Addr):Prop :=
 H b=none/\b≠X.env.locals/\b∉X.fs/\(b∈X.ex\/X.s_0.heap.objs.size<=b)/\(∀ x c,X.env.cells.lookup x=some c->c≠b)/\∀ p∈X.pn ++ pins,p.1≠b
theorem Inv.zUh {X:Cx}{pins:Y2}{Z:St}{H H' : Hp}{s:Shared}{b:Addr}(I:Inv X pins Z H s)(hb:s.heap.objs.size<=b)(hn:H' b=none):zRF X pins H' b:=by
 refine ⟨hn,Nat.ne_of_gt (Nat.lt_of_lt_of_le I.lt hb),I.zZM hb,.inr (Nat.le_trans I.sz hb),fun x c e z=>?_,fun p hp z=>?_⟩
 . obtain ⟨v,q⟩:=I.cell x c e;exact absurd (Nat.lt_of_lt_of_le q.lt (by rw [z];exact hb)) (Nat.lt_irrefl _)
 . exact absurd (Nat.lt_of_lt_of_le (Heap.lt_size (I.pin p hp).1) (by rw [z];exact hb)) (Nat.lt_irrefl _)
structure Turn (P:Program)(w:World)(K:Fg)(tg:Expr)(J:It)(fp:List Addr)(it:Addr)(tn:Nat->Heap->Prop):Prop where
 mem:it∈fp
 obj:∀ i h,tn i h->∀ b∈fp,∃ o,h.get? b=some o/\∀ v,o.data≠.cell v
 keep:∀ i h h',tn i h->(∀ b∈fp,∀ o,h.get? b=some o->h'.get? b=some o)->tn i h'
 item:∀ (X:Cx),X.prog=P->X.w=w->X.K=K->X.calm=true->∀ (i:Nat)(pins:Y2)(s:Shared)(Z:St)(H:Hp)(E:Y1),Inv X pins Z H s->(∀ b∈fp,zRF X pins H b)->tn i s.heap->J.go i H->
   wpAny (model P w) X.A (pyNext (.ref it)) (fun r s1=>∃ u,r=some u/\
     wpAny (model P w) X.A (letOwnedTupleGo tg (.ref it) u) (fun _ s2=>∃ x H',Inv X pins Z H' s2/\RelV x u/\J.yld i H x H'/\tn (i+1) s2.heap/\∀ b∈fp,H' b=none) E s1) E s
 done:∀ (X:Cx),X.prog=P->X.w=w->X.K=K->X.calm=true->∀ (i:Nat)(pins:Y2)(s:Shared)(Z:St)(H:Hp)(E:Y1),Inv X pins Z H s->(∀ b∈fp,zRF X pins H b)->tn i s.heap->J.stop i H->
   wpAny (model P w) X.A (pyNext (.ref it)) (fun r s1=>r=none/\Inv X pins Z H s1) E s
 self:∀ (A:Around)(i:Nat)(s:Shared)(Q:Y1)(E:Y1),tn i s.heap->Q (.ref it) s->wpAny (model P w) A (pyIter (.ref it)) Q E s
abbrev TI:=St->Hp->(It->Hp->Prop)->Prop
def PIE (X:Cx)(pins:Y2)(Z:St)(tg:Expr)(R:It->Hp->Prop)(itv:Value)(s2:Shared):Prop :=
 ∃ (it:Addr)(fp:List Addr)(tn:Nat->Heap->Prop)(J:It)(H' : Hp),itv=.ref it/\Inv X pins Z H' s2/\Turn X.prog X.w X.K tg J fp it tn/\tn 0 s2.heap/\(∀ b∈fp,zRF X pins H' b)/\R J H'
def PI (X:Cx)(tg iter:Expr)(wi:TI):Prop :=
 ∀ (pins:Y2)(s:Shared)(Z:St)(H:Hp)(R:It->Hp->Prop),Inv X pins Z H s->wi Z H R->
   wpAny (model X.prog X.w) X.A (eval iter X.env) (fun v s1=>wpAny (model X.prog X.w) X.A (pyIter v) (PIE X pins Z tg R) X.xe s1) X.xe s
theorem zP3 {M:Model}{A:Around}{E:Y1}{s:Shared}{tg:Expr}{it:Addr}{u:Value}{o:Obj}{n:String}{vs:Array Value}{Q:Unit->Shared->Prop}(ho:s.heap.get? it=some o)(hc:o.cls=.type n)(hd:o.data=.fields vs)(hn:["enumerate","zip","dict_itemiterator","dict_reverseitemiterator","odict_iterator","itertools.zip_longest","itertools.pairwise"].contains n=false)(hQ:Q () s):wpAny M A (letOwnedTupleGo tg (.ref it) u) Q E s:=by
 unfold letOwnedTupleGo;cases tg <;> first
   | exact wpAny_pure hQ
   | (cases u <;> first
       | exact wpAny_pure hQ
       | (refine wpAny_bind (wpAny_load ho ?_)
          rw [hc,hd];show wpAny M A (if (["enumerate","zip","dict_itemiterator","dict_reverseitemiterator","odict_iterator","itertools.zip_longest","itertools.pairwise"].contains n && vs[0]? == some (rawInt _))=true then _ else _) Q E s;rw [if_neg (by intro h;rw [hn,Bool.false_and] at h;cases h)];exact wpAny_pure hQ))
def Itl (K:Fg)(a:Addr):It :=
 ⟨fun i H=>∃ xs x,SqL K H a xs/\xs[i]? = some x,fun i H x H'=>H' = H/\∀ xs,SqL K H a xs->xs[i]? = some x,fun i H=>∃ xs,SqL K H a xs/\xs.length<=i⟩
def Itt (K:Fg)(a:Addr):It :=
 ⟨fun i H=>∃ xs x,SqT K H a xs/\xs[i]? = some x,fun i H x H'=>H' = H/\∀ xs,SqT K H a xs->xs[i]? = some x,fun i H=>∃ xs,SqT K H a xs/\xs.length<=i⟩
def Itr (lo:Int)(n:Nat):It:=⟨fun i _=>i < n,fun i H x H'=>H' = H/\x=.int (lo+i),fun i _=>n<=i⟩
theorem zRG {P:Program}{w:World}{K:Fg}{tg:Expr}(a it:Addr):Turn P w K tg (Itl K a) [it] it (fun i h=>h.IsListIter it a i) where
 mem:=by simp
 obj:=fun i h st b hb=>by have e:b=it:=(by simpa using hb);subst e;obtain ⟨o,e,c,d⟩:=st;exact ⟨o,e,fun v z=>by rw [d] at z;cases z⟩
 keep:=fun i h h' st k=>st.at fun o e=>k it (by simp) o e
 item:=by intro X hP hw hK hc i pins s Z H E I hf st hg;subst hP hw hK;obtain ⟨xs,x,hq,hx⟩:=hg;obtain ⟨its,rv,p,hz⟩:=I.list hq;obtain ⟨u,hu,ru⟩:=rv.get hx;obtain ⟨f0,f1,f2,f3,f4,f5⟩:=hf it (by simp);refine wpAny_pyNext_list_item st p.isList (x:=u) (by simpa using hu) fun h' st' sb=>?_;have I1:Inv X pins Z H { s with heap:=h' }:=I.turned (t':=s.toks) (fun b o hb e=>(sb.2 b hb).trans e) f0 f1 f3 f4 f5;obtain ⟨o,e,c,d⟩:=id st';exact ⟨u,rfl,zP3 (s:={ s with heap:=h' }) e c d (by decide) ⟨x,H,I1,ru,⟨rfl,fun ys hy=>by rw [I.zKu hy hq];exact hx⟩,st',fun b hb=>(hf b hb).1⟩⟩
 done:=by intro X hP hw hK hc i pins s Z H E I hf st hg;subst hP hw hK;obtain ⟨xs,hq,hx⟩:=hg;obtain ⟨its,rv,p,hz⟩:=I.list hq;obtain ⟨f0,f1,f2,f3,f4,f5⟩:=hf it (by simp);have hl:=rv.length;exact wpAny_pyNext_list_end (I.ok.hd hc) st p.isList (by simp;omega) fun h' eb=>⟨rfl,I.turned (t':=s.toks) (fun b o hb e=>eb b o hb e) f0 f1 f3 f4 f5⟩
 self:=fun _ _ _ _ _ st h=>wpAny_pyIter_listiter st h
theorem zP4 {P:Program}{w:World}{K:Fg}{tg:Expr}(a it:Addr):Turn P w K tg (Itt K a) [it] it (fun i h=>h.IsTupleIter it a i) where
 mem:=by simp
 obj:=fun i h st b hb=>by have e:b=it:=(by simpa using hb);subst e;obtain ⟨o,e,c,d⟩:=st;exact ⟨o,e,fun v z=>by rw [d] at z;cases z⟩
 keep:=fun i h h' st k=>st.at fun o e=>k it (by simp) o e
 item:=by intro X hP hw hK hc i pins s Z H E I hf st hg;subst hP hw hK;obtain ⟨xs,x,hq,hx⟩:=hg;obtain ⟨its,rv,p,hz⟩:=I.tuple hq;obtain ⟨u,hu,ru⟩:=rv.get hx;obtain ⟨f0,f1,f2,f3,f4,f5⟩:=hf it (by simp);refine wpAny_pyNext_tuple_item st (show s.heap.IsTuple a its.toArray from p) (x:=u) (by simpa using hu) fun h' st' sb=>?_;have I1:Inv X pins Z H { s with heap:=h' }:=I.turned (t':=s.toks) (fun b o hb e=>(sb.2 b hb).trans e) f0 f1 f3 f4 f5;obtain ⟨o,e,c,d⟩:=id st';exact ⟨u,rfl,zP3 (s:={ s with heap:=h' }) e c d (by decide) ⟨x,H,I1,ru,⟨rfl,fun ys hy=>by rw [I.zMO hy hq];exact hx⟩,st',fun b hb=>(hf b hb).1⟩⟩
 done:=by intro X hP hw hK hc i pins s Z H E I hf st hg;subst hP hw hK;obtain ⟨xs,hq,hx⟩:=hg;obtain ⟨its,rv,p,hz⟩:=I.tuple hq;obtain ⟨f0,f1,f2,f3,f4,f5⟩:=hf it (by simp);have hl:=rv.length;exact wpAny_pyNext_tuple_end (I.ok.hd hc) st (show s.heap.IsTuple a its.toArray from p) (by simp;omega) fun h' eb=>⟨rfl,I.turned (t':=s.toks) (fun b o hb e=>eb b o hb e) f0 f1 f3 f4 f5⟩
 self:=fun _ _ _ _ _ st h=>wpAny_pyIter_tupleiter st h
theorem zP5 {P:Program}{w:World}{K:Fg}{tg:Expr}(it:Addr)(lo:Int)(n:Nat):Turn P w K tg (Itr lo n) [it] it (fun i h=>IsRangeIter h it (lo+(i:Nat) * 1) ((n:Int) - (i:Nat)) 1) where
 mem:=by simp
 obj:=fun i h st b hb=>by have e:b=it:=(by simpa using hb);subst e;exact ⟨_,st,fun v z=>by have z' : Data.fields _=Data.cell v:=z;cases z'⟩
 keep:=fun i h h' st k=>k it (by simp) _ st
 item:=by intro X hP hw hK hc i pins s Z H E I hf st hg;subst hP hw hK;obtain ⟨f0,f1,f2,f3,f4,f5⟩:=hf it (by simp);have W:=Walks.range (prog:=X.prog) (w:=X.w) (I.ok.hd hc) it lo 1 n;refine W.item i s _ _ hg st fun v h' tk hv st' kk=>?_;obtain ⟨t,rfl⟩:=hv;have I1:Inv X pins Z H { s with heap:=h',toks:=tk }:=I.turned (fun b o hb e=>kk b o (by simpa using hb) e) f0 f1 f3 f4 f5;refine ⟨_,rfl,zP3 (s:={ s with heap:=h',toks:=tk }) (n := "range_iterator") st' rfl rfl (by decide) ⟨.int (lo+i),H,I1,⟨t,?_⟩,⟨rfl,rfl⟩,st',fun b hb=>(hf b hb).1⟩⟩;rw [Int.mul_one]
 done:=by intro X hP hw hK hc i pins s Z H E I hf st hg;subst hP hw hK;obtain ⟨f0,f1,f2,f3,f4,f5⟩:=hf it (by simp);exact wpAny_pyNext_range_end (I.ok.hd hc) st (by have:n<=i:=hg;omega) fun h' eb=>⟨rfl,I.turned (t':=s.toks) (fun b o hb e=>eb b o hb e) f0 f1 f3 f4 f5⟩
 self:=fun _ _ _ _ _ st h=>wpAny_pyIter_rangeiter st h
section
variable {X:Cx}{tg:Expr}
def zW1 (K:Fg)(tl:TE):TI:=fun Z H R=>tl Z H fun x H1=>∃ a,x=.ref a/\(∃ xs,SqL K H1 a xs)/\R (Itl K a) H1
def zZO (K:Fg)(tl:TE):TI:=fun Z H R=>tl Z H fun x H1=>∃ a,x=.ref a/\(∃ xs,SqT K H1 a xs)/\R (Itt K a) H1
theorem zDk {l:Expr}{tl:TE}(hl:PE X l tl):PI X tg l (zW1 X.K tl):=by
 intro pins s Z H R I h;refine thn (hl pins s Z H _ I h) ?_;rintro v s1 ⟨x,H1,I1,r1,q1⟩;obtain ⟨a,e,⟨xs,hq⟩,q⟩:=q1;subst e;cases r1;obtain ⟨its,rv,p,hz⟩:=I1.list hq;refine wpAny_pyIter_list p.isList ?_;refine ⟨s1.heap.objs.size,[s1.heap.objs.size],_,_,H1,rfl,I1.kept (t':=s1.toks) fun b o e=>Heap.get?_push_of_some _ e,zRG a _,⟨_,Heap.get?_push_size _ rfl,rfl,rfl⟩,fun b hb=>?_,q⟩;have e:b=s1.heap.objs.size:=by simpa using hb
 subst e;exact I1.zUh (Nat.le_refl _) (I1.hok.fresh (Nat.le_refl _))
theorem zUi {l:Expr}{tl:TE}(hl:PE X l tl):PI X tg l (zZO X.K tl):=by
 intro pins s Z H R I h;refine thn (hl pins s Z H _ I h) ?_;rintro v s1 ⟨x,H1,I1,r1,q1⟩;obtain ⟨a,e,⟨xs,hq⟩,q⟩:=q1;subst e;cases r1;obtain ⟨its,rv,p,hz⟩:=I1.tuple hq;refine wpAny_pyIter_tuple (show s1.heap.IsTuple a its.toArray from p) ?_;refine ⟨s1.heap.objs.size,[s1.heap.objs.size],_,_,H1,rfl,I1.kept (t':=s1.toks) fun b o e=>Heap.get?_push_of_some _ e,zP4 a _,⟨_,Heap.get?_push_size _ rfl,rfl,rfl⟩,fun b hb=>?_,q⟩;have e:b=s1.heap.objs.size:=by simpa using hb
 subst e;exact I1.zUh (Nat.le_refl _) (I1.hok.fresh (Nat.le_refl _))
theorem zOq {pins:Y2}{Z:St}{H:Hp}{s:Shared}{R:It->Hp->Prop}{E:Y1}{lo hi:Int}{t u v:Tok}{tk:Nat}(I:Inv X pins Z H s)(h1 : -(2 ^ 62)<=lo)(h2:lo < 2 ^ 62)(h3 : -(2 ^ 62)<=hi)(h4:hi < 2 ^ 62)(q:R (Itr lo (hi - lo).toNat) H):wpAny (model X.prog X.w) X.A (pyIter (.ref s.heap.objs.size)) (PIE X pins Z tg R) E { s with heap:=s.heap.push { cls:=.type "range",data:=.fields #[.int lo t,.int hi u,.int 1 v] },toks:=tk }:=by
 refine wpAny_pyIter_range (IsRange.new ..) (small_one h1 h2 h3 h4) ?_;have I1:Inv X pins Z H { s with heap:=s.heap.push { cls:=.type "range",data:=.fields #[.int lo t,.int hi u,.int 1 v] },toks:=tk }:=I.kept fun b o e=>Heap.get?_push_of_some _ e;refine ⟨(s.heap.push { cls:=.type "range",data:=.fields #[.int lo t,.int hi u,.int 1 v] }).objs.size,[(s.heap.push { cls:=.type "range",data:=.fields #[.int lo t,.int hi u,.int 1 v] }).objs.size],_,_,H,rfl,
   I1.kept (t':=tk) fun b o e=>Heap.get?_push_of_some _ e,zP5 _ lo (hi - lo).toNat,?_,fun b hb=>?_,q⟩
 . have e1:lo+((0:Nat):Int) * 1=lo:=(by simp);have e2:(((hi - lo).toNat:Nat):Int) - ((0:Nat):Int)=Builtin.Range.rangeSize lo hi 1:=by rw [rangeSize_one];split <;> omega
   show IsRangeIter _ _ (lo+((0:Nat):Int) * 1) ((((hi - lo).toNat:Nat):Int) - ((0:Nat):Int)) 1;rw [e1,e2];exact Heap.get?_push_size _ rfl
 . have e:b=(s.heap.push { cls:=.type "range",data:=.fields #[.int lo t,.int hi u,.int 1 v] }).objs.size:=(by simpa using hb);subst e;exact I1.zUh (Nat.le_refl _) (I1.hok.fresh (Nat.le_refl _))
def zW2 (ta:TA):TI:=fun Z H R=>ta Z H fun vs H1=>∃ j:Int,vs=[.int j]/\-(2 ^ 62)<=j/\j < 2 ^ 62/\R (Itr 0 j.toNat) H1
def zYR (ta:TA):TI:=fun Z H R=>ta Z H fun vs H1=>∃ i j:Int,vs=[.int i,.int j]/\(-(2 ^ 62)<=i/\i < 2 ^ 62/\-(2 ^ 62)<=j/\j < 2 ^ 62)/\R (Itr i (j - i).toNat) H1
theorem zMQ {a:Expr}{ta:TA}{p pos:Pos}(hg:Gl X "range")(hm:X.mg "range" = none)(ha:PA X [a] ta)(hs:starEach [a] X.env=[(false,eval a X.env)]:=by rfl):PI X tg (.Call (.Name "range" p) [a] [] pos) (zW2 ta):=by
 intro pins s Z H R I h;refine Call_ (zHz I hg hm boot_range (PyProof.Rows.callWith_type1 (thn (ha pos pins s Z H _ I h) ?_) hs rfl));rintro us s1 ⟨vs,H1,I1,r1,q1⟩;obtain ⟨j,e,q1,q2,q⟩:=q1;subst e;cases r1 with
 | cons r rr =>cases rr;obtain ⟨t,rfl⟩:=r;exact call_range_1 (zOq I1 (by omega) (by omega) q1 q2 (by simpa using q))
theorem zRH {a b:Expr}{ta:TA}{p pos:Pos}(hg:Gl X "range")(hm:X.mg "range" = none)(ha:PA X [a,b] ta)(hs:starEach [a,b] X.env=[(false,eval a X.env),(false,eval b X.env)]:=by rfl)(hs2:starEach [b] X.env=[(false,eval b X.env)]:=by rfl) : PI X tg (.Call (.Name "range" p) [a,b] [] pos) (zYR ta):=by
 intro pins s Z H R I h;refine Call_ (zHz I hg hm boot_range (PyProof.Rows.callWith_type1 (thn (ha pos pins s Z H _ I h) fun us s1 ⟨vs,H1,I1,r1,q1⟩=>?_) (by rw [hs,hs2]) (by rw [hs2];rfl)));obtain ⟨i,j,e,⟨q1,q2,q3,q4⟩,q⟩:=q1;subst e;cases r1 with
 | cons r rr =>
   cases rr with
   | cons r' rr =>cases rr;obtain ⟨t,rfl⟩:=r;obtain ⟨t',rfl⟩:=r';exact call_range_2 (zOq I1 q1 q2 q3 q4 q)
def zZP (wi:TI)(g:TG)(tb:TS):TS:=fun D Z H=>wi Z H fun J H1=>∃ W:Nat->Nat->St->Hp->Prop,(∃ m,W 0 m Z H1)/\∀ i m Z H,W i m Z H->
 (J.stop i H/\D.nx Z H)\/(J.go i H/\∃ N:St->Hp->Prop,(∀ Z' H',N Z' H'->∃ m',m' < m/\W (i+1) m' Z' H')/\∀ x H',J.yld i H x H'->g x Z H' fun σ2 H2=>tb { D with nx:=N,ct:=N,bk:=D.nx } σ2 H2)
def zMR (fp:List Addr)(h:Heap):List (Addr×Obj):=fp.filterMap fun b=>(h.get? b).map fun o=>(b,o)
theorem zGh {fp:List Addr}{h:Heap}{b:Addr}{o:Obj}(hb:b∈fp)(e:h.get? b=some o):(b,o)∈zMR fp h:=List.mem_filterMap.mpr ⟨b,hb,by rw [e];rfl⟩
theorem zRI {fp:List Addr}{h:Heap}{p:Addr×Obj}(hp:p∈zMR fp h):p.1∈fp/\h.get? p.1=some p.2:=by
 obtain ⟨b,hb,e⟩:=List.mem_filterMap.mp hp;cases q:h.get? b with
 | none=>rw [q] at e;cases e
 | some o =>rw [q] at e;have e' : (b,o)=p:=Option.some.inj e;subst e';exact ⟨hb,q⟩
theorem Inv.pinned {pins:Y2}{Z:St}{H:Hp}{s:Shared}{fp:List Addr}(I:Inv X pins Z H s)(hf:∀ b∈fp,zRF X pins H b)(ho:∀ b∈fp,∃ o,s.heap.get? b=some o/\∀ v,o.data≠.cell v):Inv X (pins ++ zMR fp s.heap) Z H s :=
 I.zRB fun p hp=>(List.mem_append.mp hp).elim (fun z=>I.pin p (List.mem_append_right _ z)) fun z=>by obtain ⟨hb,e⟩:=zRI z;obtain ⟨f0,f1,f2,_⟩:=hf p.1 hb;obtain ⟨o,e',d⟩:=ho p.1 hb;rw [e] at e';cases e';exact ⟨e,f0,f1,f2,d⟩
theorem Inv.zHm {pins pl:Y2}{Z:St}{H:Hp}{s:Shared}(I:Inv X (pins ++ pl) Z H s):Inv X pins Z H s:=I.zRB fun p hp=>I.pin p (List.mem_append_right _ (List.mem_append_left _ hp))
theorem JZ {iter:Expr}{body:List Stmt}{wi:TI}{g:TG}{tb:TS}{pos:Pos}(hp:PassesOwn (model X.prog X.w) X.A X.env X.xe)(hc:X.calm=true)(hi:PI X tg iter wi)(hg:PG X tg g)(hb:PSs X body tb)(hs:∀ x,foldedSetIterable iter X.env x=pure x:=by intro _;rfl):PS X (.For tg iter body [] pos) (zZP wi g tb):=by
 intro pins s Z H D I h;refine wpAny_For (thn (hi pins s Z H _ I h) fun v s1 h1=>thn h1 fun itv s2 h2=>?_) hs;obtain ⟨it,fp,tn,J,H2,e,I2,T,st2,f2,W,⟨m0,w0⟩,turn⟩:=h2;subst e;have stat:∀ {H' : Hp},(∀ b∈fp,H' b=none)->∀ b∈fp,zRF X pins H' b:=fun hn b hb=>⟨hn b hb,(f2 b hb).2⟩;refine codeAny_forLoop_any (fun n s'=>∃ i Z' H',Inv X pins Z' H' s'/\tn i s'.heap/\(∀ b∈fp,H' b=none)/\W i n Z' H') ?_ m0 ⟨0,Z,H2,I2,st2,fun b hb=>(f2 b hb).1,w0⟩;rintro n s3 ⟨i,σ3,H3,I3,st3,fr3,w3⟩;rcases turn i n σ3 H3 w3 with ⟨stop,qn⟩ | ⟨go,N,hN,step⟩
 . refine wpAny_passesOwn hp (thn (T.done X rfl rfl rfl hc i pins s3 σ3 H3 X.xe I3 (stat fr3) st3 stop) ?_);rintro r s4 ⟨hr,I4⟩;subst hr;exact wpAny_execs_nil ⟨σ3,H3,I4,qn⟩
 . refine wpAny_passesOwn hp (thn (T.item X rfl rfl rfl hc i pins s3 σ3 H3 X.xe I3 (stat fr3) st3 go) ?_);rintro r s4 ⟨u,hr,h4⟩;subst hr;refine wpAny_passesOwn hp (thn h4 ?_);rintro _ s5 ⟨x,H5,I5,r5,y5,st5,fr5⟩;have I5':=I5.pinned (stat fr5) (T.obj _ _ st5);refine wpAny_passesOwn hp (thn (hg _ s5 σ3 H5 x u _ I5' r5 (step x H5 y5)) ?_);rintro _ s6 ⟨σ6,H6,I6,q6⟩;refine wpAny_passesOwn hp (thn (hb _ s6 σ6 H6 _ I6 q6) fun f s7 q7=>?_);have again:∀ {σ7:St}{H7:Hp},Inv X (pins ++ zMR fp s5.heap) σ7 H7 s7->N σ7 H7->∃ m,m < n/\∃ i Z' H',Inv X pins Z' H' s7/\tn i s7.heap/\(∀ b∈fp,H' b=none)/\W i m Z' H':=fun {σ7 H7} I7 n7=>by
     obtain ⟨m',hm,w7⟩:=hN σ7 H7 n7;refine ⟨m',hm,i+1,σ7,H7,I7.zHm,T.keep _ _ _ st5 fun b hb o e=>(I7.pin (b,o) (List.mem_append_right _ (List.mem_append_right _ (zGh hb e)))).1,fun b hb=>?_,w7⟩;obtain ⟨o,e,d⟩:=T.obj _ _ st5 b hb;exact (I7.pin (b,o) (List.mem_append_right _ (List.mem_append_right _ (zGh hb e)))).2.1
   cases f with
   | next=>obtain ⟨σ7,H7,I7,n7⟩:=q7;exact again I7 n7
   | cont=>obtain ⟨σ7,H7,I7,n7⟩:=q7;exact again I7 n7
   | brk=>obtain ⟨σ7,H7,I7,q7⟩:=q7;exact ⟨σ7,H7,I7.zHm,q7⟩
   | ret v=>obtain ⟨x7,σ7,H7,I7,r7,q7⟩:=q7;exact ⟨x7,σ7,H7,I7.zHm,r7,q7⟩
end
theorem zEm {K:Fg}{a:Addr}{xs:List V}{g:TG}{tb:TS}{D:Ends}{Z:St}{H:Hp}(Pv:Nat->St->Hp->Prop)(h0:Pv 0 Z H)(hl:∀ i Z H,i<=xs.length->Pv i Z H->SqL K H a xs)(hs:∀ i x Z H,xs[i]? = some x->Pv i Z H->g x Z H fun σ2 H2=>tb { D with nx:=Pv (i+1),ct:=Pv (i+1),bk:=D.nx } σ2 H2)(hd:∀ Z H,Pv xs.length Z H->D.nx Z H) : ∃ W:Nat->Nat->St->Hp->Prop,(∃ m,W 0 m Z H)/\∀ i m Z H,W i m Z H->
     ((Itl K a).stop i H/\D.nx Z H)\/((Itl K a).go i H/\∃ N:St->Hp->Prop,(∀ Z' H',N Z' H'->∃ m',m' < m/\W (i+1) m' Z' H')/\∀ x H',(Itl K a).yld i H x H'->g x Z H' fun σ2 H2=>tb { D with nx:=N,ct:=N,bk:=D.nx } σ2 H2):=by
 refine ⟨fun i m Z H=>m=xs.length - i/\i<=xs.length/\Pv i Z H,⟨xs.length,by simp,Nat.zero_le _,h0⟩,?_⟩;rintro i m Z H ⟨rfl,hi,p⟩;have q:=hl i Z H hi p;by_cases hlt:i < xs.length
 . refine .inr ⟨⟨xs,xs[i],q,by simp [hlt]⟩,Pv (i+1),fun Z' H' p'=>⟨xs.length - (i+1),by omega,rfl,hlt,p'⟩,fun x H' y=>?_⟩;obtain ⟨e,y⟩:=y;subst e;exact hs i x Z _ (y xs q) p
 . have e:i=xs.length:=(by omega);subst e;exact .inl ⟨⟨xs,q,Nat.le_refl _⟩,hd Z H p⟩
theorem zRJ {K:Fg}{a:Addr}{xs:List V}{g:TG}{tb:TS}{D:Ends}{Z:St}{H:Hp}(Pv:Nat->St->Hp->Prop)(h0:Pv 0 Z H)(hl:∀ i Z H,i<=xs.length->Pv i Z H->SqT K H a xs)(hs:∀ i x Z H,xs[i]? = some x->Pv i Z H->g x Z H fun σ2 H2=>tb { D with nx:=Pv (i+1),ct:=Pv (i+1),bk:=D.nx } σ2 H2)(hd:∀ Z H,Pv xs.length Z H->D.nx Z H) : ∃ W:Nat->Nat->St->Hp->Prop,(∃ m,W 0 m Z H)/\∀ i m Z H,W i m Z H->
     ((Itt K a).stop i H/\D.nx Z H)\/((Itt K a).go i H/\∃ N:St->Hp->Prop,(∀ Z' H',N Z' H'->∃ m',m' < m/\W (i+1) m' Z' H')/\∀ x H',(Itt K a).yld i H x H'->g x Z H' fun σ2 H2=>tb { D with nx:=N,ct:=N,bk:=D.nx } σ2 H2):=by
 refine ⟨fun i m Z H=>m=xs.length - i/\i<=xs.length/\Pv i Z H,⟨xs.length,by simp,Nat.zero_le _,h0⟩,?_⟩;rintro i m Z H ⟨rfl,hi,p⟩;have q:=hl i Z H hi p;by_cases hlt:i < xs.length
 . refine .inr ⟨⟨xs,xs[i],q,by simp [hlt]⟩,Pv (i+1),fun Z' H' p'=>⟨xs.length - (i+1),by omega,rfl,hlt,p'⟩,fun x H' y=>?_⟩;obtain ⟨e,y⟩:=y;subst e;exact hs i x Z _ (y xs q) p
 . have e:i=xs.length:=(by omega);subst e;exact .inl ⟨⟨xs,q,Nat.le_refl _⟩,hd Z H p⟩
theorem zRK {lo:Int}{n:Nat}{g:TG}{tb:TS}{D:Ends}{Z:St}{H:Hp}(Pv:Nat->St->Hp->Prop)(h0:Pv 0 Z H)(hs:∀ i Z H,i < n->Pv i Z H->g (.int (lo+i)) Z H fun σ2 H2=>tb { D with nx:=Pv (i+1),ct:=Pv (i+1),bk:=D.nx } σ2 H2)(hd:∀ Z H,Pv n Z H->D.nx Z H) : ∃ W:Nat->Nat->St->Hp->Prop,(∃ m,W 0 m Z H)/\∀ i m Z H,W i m Z H->
     ((Itr lo n).stop i H/\D.nx Z H)\/((Itr lo n).go i H/\∃ N:St->Hp->Prop,(∀ Z' H',N Z' H'->∃ m',m' < m/\W (i+1) m' Z' H')/\∀ x H',(Itr lo n).yld i H x H'->g x Z H' fun σ2 H2=>tb { D with nx:=N,ct:=N,bk:=D.nx } σ2 H2):=by
 refine ⟨fun i m Z H=>m=n - i/\i<=n/\Pv i Z H,⟨n,by simp,Nat.zero_le _,h0⟩,?_⟩;rintro i m Z H ⟨rfl,hi,p⟩;by_cases hlt:i < n
 . refine .inr ⟨hlt,Pv (i+1),fun Z' H' p'=>⟨n - (i+1),by omega,rfl,hlt,p'⟩,fun x H' y=>?_⟩;obtain ⟨e,y⟩:=y;subst e y;exact hs i Z _ hlt p
 . have e:i=n:=(by omega);subst e;exact .inl ⟨Nat.le_refl _,hd Z H p⟩
abbrev R2:=V->V->Hp->VK->Prop
def OpR (X:Cx)(f:Value->Value->Sem Value)(r:R2):Prop :=
 ∀ (pins:Y2)(s:Shared)(Z:St)(H:Hp)(x y:V)(v u:Value)(Q:VK),Inv X pins Z H s->RelV x v->RelV y u->r x y H Q->
   wpAny (model X.prog X.w) X.A (f v u) (EP X pins Z Q) X.xe s
def UnR (X:Cx)(f:Value->Sem Value)(r:V->Hp->VK->Prop):Prop :=
 ∀ (pins:Y2)(s:Shared)(Z:St)(H:Hp)(x:V)(v:Value)(Q:VK),Inv X pins Z H s->RelV x v->r x H Q->
   wpAny (model X.prog X.w) X.A (f v) (EP X pins Z Q) X.xe s
def zH1 (X:Cx)(f:Value)(r:List V->Hp->VK->Prop):Prop :=
 ∀ (pins:Y2)(s:Shared)(Z:St)(H:Hp)(xs:List V)(us:List Value)(Q:VK),Inv X pins Z H s->Vals xs us->r xs H Q->
   wpAny (model X.prog X.w) X.A (call f us) (EP X pins Z Q) X.xe s
def zZQ (X:Cx)(r:V->Hp->(Bool->Hp->Prop)->Prop):Prop :=
 ∀ (pins:Y2)(s:Shared)(Z:St)(H:Hp)(x:V)(v:Value)(Q:Bool->Hp->Prop),Inv X pins Z H s->RelV x v->r x H Q->
   wpAny (model X.prog X.w) X.A (truthy v) (TP X pins Z Q) X.xe s
def tOp (r:R2)(ta tb:TE):TE:=fun Z H Q=>ta Z H fun x H1=>tb Z H1 fun y H2=>r x y H2 Q
def tUn (r:V->Hp->VK->Prop)(ta:TE):TE:=fun Z H Q=>ta Z H fun x H1=>r x H1 Q
def rI (C:Int->Int->Prop)(g:Int->Int->V):R2:=fun x y H Q=>∃ i j,x=.int i/\y=.int j/\C i j/\Q (g i j) H
def rI0 (g:Int->Int->V):R2:=fun x y H Q=>∃ i j,x=.int i/\y=.int j/\Q (g i j) H
def rU (g:Int->V):V->Hp->VK->Prop:=fun x H Q=>∃ i,x=.int i/\Q (g i) H
section
variable {X:Cx}{a b c:Expr}{ta tb tc:TE}{pos:Pos}
theorem zYS (ha:PE X a ta)(hb:PE X b tb){pins:Y2}{s:Shared}{Z:St}{H:Hp}{R:V->V->Hp->Prop}(I:Inv X pins Z H s)(h:ta Z H fun x H1=>tb Z H1 fun y H2=>R x y H2){Q:Y1}{f:Value->Value->Sem Value}(hf:∀ v u s2 x y H2,Inv X pins Z H2 s2->RelV x v->RelV y u->R x y H2->wpAny (model X.prog X.w) X.A (f v u) Q X.xe s2) : wpAny (model X.prog X.w) X.A (eval a X.env) (fun v s₁=>wpAny (model X.prog X.w) X.A (eval b X.env) (fun u s₂=>wpAny (model X.prog X.w) X.A (f v u) Q X.xe s₂) X.xe s₁) X.xe s:=by refine thn (ha pins s Z H _ I h) ?_;rintro v s1 ⟨x,H1,I1,r1,q1⟩;refine thn (hb pins s1 Z H1 _ I1 q1) ?_;rintro u s2 ⟨y,H2,I2,r2,q2⟩;exact hf v u s2 x y H2 I2 r1 r2 q2
theorem z9 {op:Operator}{r:R2}(ho:OpR X (binaryOp op) r)(ha:PE X a ta)(hb:PE X b tb):PE X (.BinOp a op b pos) (tOp r ta tb):=by intro pins s Z H Q I h;exact wpAny_BinOp (zYS ha hb I h fun v u s2 x y H2 I2 rx ry q=>ho pins s2 Z H2 x y v u Q I2 rx ry q)
theorem zFA {op:UnaryOp}{r:V->Hp->VK->Prop}(ho:UnR X (unaryOp op) r)(ha:PE X a ta):PE X (.UnaryOp op a pos) (tUn r ta):=by intro pins s Z H Q I h;exact UnaryOp_ (thn (ha pins s Z H _ I h) fun v s1 ⟨x,H1,I1,r1,q1⟩=>ho pins s1 Z H1 x v Q I1 r1 q1)
theorem opI {f:Value->Value->Sem Value}{C:Int->Int->Prop}{g:Int->Int->Int}(rule:∀ (i j:Int)(t u:Tok)(s:Shared)(Q:Y1)(E:Y1),C i j->Q (.int (g i j) s.toks) { s with toks:=s.toks+1 }->wpAny (model X.prog X.w) X.A (f (.int i t) (.int j u)) Q E s) : OpR X f (rI C fun i j=>.int (g i j)):=by intro pins s Z H x y v u Q I rx ry h;obtain ⟨i,j,rfl,rfl,hc,q⟩:=h;obtain ⟨t,rfl⟩:=rx;obtain ⟨t',rfl⟩:=ry;exact rule i j t t' s _ _ hc ⟨.int (g i j),H,I.tok _,⟨_,rfl⟩,q⟩
theorem zY1 {f:Value->Value->Sem Value}{g:Int->Int->Int}(rule:∀ (i j:Int)(t u:Tok)(s:Shared)(Q:Y1)(E:Y1),Q (.int (g i j) s.toks) { s with toks:=s.toks+1 }->wpAny (model X.prog X.w) X.A (f (.int i t) (.int j u)) Q E s) : OpR X f (rI0 fun i j=>.int (g i j)):=by intro pins s Z H x y v u Q I rx ry h;obtain ⟨i,j,rfl,rfl,q⟩:=h;obtain ⟨t,rfl⟩:=rx;obtain ⟨t',rfl⟩:=ry;exact rule i j t t' s _ _ ⟨.int (g i j),H,I.tok _,⟨_,rfl⟩,q⟩
theorem zYB {f:Value->Value->Sem Value}{g:Int->Int->Bool}(rule:∀ (i j:Int)(t u:Tok)(s:Shared)(Q:Y1)(E:Y1),Q (.bool (g i j)) s->wpAny (model X.prog X.w) X.A (f (.int i t) (.int j u)) Q E s) : OpR X f (rI0 fun i j=>.bl (g i j)):=by intro pins s Z H x y v u Q I rx ry h;obtain ⟨i,j,rfl,rfl,q⟩:=h;obtain ⟨t,rfl⟩:=rx;obtain ⟨t',rfl⟩:=ry;exact rule i j t t' s _ _ ⟨.bl (g i j),H,I,rfl,q⟩
def zZR (i j:Int):Prop:=0 < j/\j < 1073741824
def zUj (i j:Int):Prop:=(-(2 ^ 64) < i/\i < 2 ^ 64)\/(-(2 ^ 64) < j/\j < 2 ^ 64)
theorem zUj.ok {i j:Int}(h:zUj i j):IntMulOk i j:=by
 rcases h with ⟨h1,h2⟩ | ⟨h1,h2⟩
 . exact .of_left (intBits_le_64 h1 h2)
 . exact .of_right (intBits_le_64 h1 h2)
theorem ZK:OpR X (binaryOp .Add) (rI0 fun i j=>.int (i+j)):=zY1 fun _ _ _ _ _ _ _ q=>add_int q
theorem zFs:OpR X (binaryOp .Sub) (rI0 fun i j=>.int (i - j)):=zY1 fun _ _ _ _ _ _ _ q=>sub_int q
theorem zDb:OpR X (binaryOp .Mult) (rI zUj fun i j=>.int (i * j)):=opI fun _ _ _ _ _ _ _ hc q=>mul_int q hc.ok
theorem zVX:OpR X (binaryOp .FloorDiv) (rI zZR fun i j=>.int (i / j)):=opI fun i j _ _ _ _ _ hc q=>by have h1:(0:Int) < j:=hc.1;have h2:j < 1073741824:=hc.2;exact floordiv_int (by omega) (by rw [Int.fdiv_eq_ediv_of_nonneg i (by omega)];exact q) (.inl (PyProof.noPylong_small (by omega)))
theorem zOr:OpR X (binaryOp .Mod) (rI (fun _ j=>0 < j) fun i j=>.int (i % j)):=opI fun i j _ _ _ _ _ hc q=>by have h1:(0:Int) < j:=hc;exact mod_int' (by omega) (by rw [Int.fmod_eq_emod_of_nonneg i (by omega)];exact q)
theorem unI {f:Value->Sem Value}{g:Int->Int}(rule:∀ (i:Int)(t:Tok)(s:Shared)(Q:Y1)(E:Y1),Q (.int (g i) s.toks) { s with toks:=s.toks+1 }->wpAny (model X.prog X.w) X.A (f (.int i t)) Q E s) : UnR X f (rU fun i=>.int (g i)):=by intro pins s Z H x v Q I rx h;obtain ⟨i,rfl,q⟩:=h;obtain ⟨t,rfl⟩:=rx;exact rule i t s _ _ ⟨.int (g i),H,I.tok _,⟨_,rfl⟩,q⟩
theorem zAD:UnR X (unaryOp .USub) (rU fun i=>.int (-i)):=unI fun _ _ _ _ _ q=>neg_int q
end
def zYC:V->V->Bool
 | .non,.non=>true | .non,.int _=>true | .int _,.non=>true | .non,.bl _=>true | .bl _,.non=>true | .non,.str _=>true | .str _,.non=>true
 | .int _,.int _=>true | .bl _,.bl _=>true | .str _,.str _=>true | .byt _,.byt _=>true
 | .int _,.str _=>true | .str _,.int _=>true | .bl _,.str _=>true | .str _,.bl _=>true
 | _,_=>false
def rEq:R2:=fun x y H Q=>zYC x y=true/\Q (.bl (decide (x=y))) H
def rNe:R2:=fun x y H Q=>zYC x y=true/\Q (.bl (!decide (x=y))) H
theorem zRL {i j:Int}:decide (V.int i=V.int j)=(i == j):=by rw [Bool.eq_iff_iff];simp
theorem zUk {i j:Bool}:decide (V.bl i=V.bl j)=(i == j):=by rw [Bool.eq_iff_iff];simp
theorem zRM {i j:Str}:decide (V.str i=V.str j)=(i == j):=by rw [Bool.eq_iff_iff];simp
theorem zRN {i j:Array UInt8}:decide (V.byt i=V.byt j)=(i.toList == j.toList):=by rw [Bool.eq_iff_iff];cases i;cases j;simp
section
variable {X:Cx}{a b c:Expr}{ta tb tc:TE}{pos:Pos}
theorem qv {pins:Y2}{Z:St}{H:Hp}{s:Shared}{Q:VK}{k k' : Bool}(I:Inv X pins Z H s)(q:Q (.bl k) H)(e:k=k'):EP X pins Z Q (.bool k') s:=by subst e;exact ⟨.bl k,H,I,rfl,q⟩
theorem QC:OpR X (compareOp .Eq) rEq:=by
 intro pins s Z H x y v u Q I rx ry h;obtain ⟨hs,q⟩:=h;cases x with
 | non =>
   cases rx;cases y with
   | non=>cases ry;exact PySem.EqNone.eq_none_none (qv I q (by simp))
   | bl j=>cases ry;exact PySem.EqNone.eq_none_bool (qv I q (by simp))
   | int j=>obtain ⟨t',rfl⟩:=ry;exact PySem.EqNone.eq_none_int (qv I q (by simp))
   | str j=>obtain ⟨t',rfl⟩:=ry;exact PySem.EqNone.eq_none_str (qv I q (by simp))
   | _=>exact absurd (show false=true from hs) Bool.false_ne_true
 | bl i =>
   cases rx;cases y with
   | non=>cases ry;exact PySem.EqNone.eq_bool_none (qv I q (by simp))
   | bl j=>cases ry;exact eq_bool (qv I q zUk)
   | str j=>obtain ⟨t',rfl⟩:=ry;exact PySem.EqMixed.eq_bool_str (qv I q (by simp))
   | _=>exact absurd (show false=true from hs) Bool.false_ne_true
 | int i =>
   obtain ⟨t,rfl⟩:=rx;cases y with
   | non=>cases ry;exact PySem.EqNone.eq_int_none (qv I q (by simp))
   | int j=>obtain ⟨t',rfl⟩:=ry;exact eq_int (qv I q zRL)
   | str j=>obtain ⟨t',rfl⟩:=ry;exact PySem.EqMixed.eq_int_str (qv I q (by simp))
   | _=>exact absurd (show false=true from hs) Bool.false_ne_true
 | str i =>
   obtain ⟨t,rfl⟩:=rx;cases y with
   | non=>cases ry;exact PySem.EqNone.eq_str_none (qv I q (by simp))
   | bl j=>cases ry;exact PySem.EqMixed.eq_str_bool (qv I q (by simp))
   | int j=>obtain ⟨t',rfl⟩:=ry;exact PySem.EqMixed.eq_str_int (qv I q (by simp))
   | str j=>obtain ⟨t',rfl⟩:=ry;exact eq_str (qv I q zRM)
   | _=>exact absurd (show false=true from hs) Bool.false_ne_true
 | byt i =>
   obtain ⟨t,rfl⟩:=rx;cases y with
   | byt j=>obtain ⟨t',rfl⟩:=ry;exact PySem.W.eq_bytes (qv I q zRN)
   | _=>exact absurd (show false=true from hs) Bool.false_ne_true
 | _=>cases y <;> exact absurd (show false=true from hs) Bool.false_ne_true
theorem zW3:OpR X (compareOp .NotEq) rNe:=by
 intro pins s Z H x y v u Q I rx ry h;obtain ⟨hs,q⟩:=h;cases x with
 | non =>
   cases rx;cases y with
   | non=>cases ry;exact PySem.EqNone.ne_none_none (qv I q (by simp))
   | bl j=>cases ry;exact PySem.EqNone.ne_none_bool (qv I q (by simp))
   | int j=>obtain ⟨t',rfl⟩:=ry;exact PySem.EqNone.ne_none_int (qv I q (by simp))
   | str j=>obtain ⟨t',rfl⟩:=ry;exact PySem.EqNone.ne_none_str (qv I q (by simp))
   | _=>exact absurd (show false=true from hs) Bool.false_ne_true
 | bl i =>
   cases rx;cases y with
   | non=>cases ry;exact PySem.EqNone.ne_bool_none (qv I q (by simp))
   | bl j=>cases ry;exact ne_bool (qv I q (congrArg not zUk))
   | str j=>obtain ⟨t',rfl⟩:=ry;exact PySem.EqMixed.ne_bool_str (qv I q (by simp))
   | _=>exact absurd (show false=true from hs) Bool.false_ne_true
 | int i =>
   obtain ⟨t,rfl⟩:=rx;cases y with
   | non=>cases ry;exact PySem.EqNone.ne_int_none (qv I q (by simp))
   | int j=>obtain ⟨t',rfl⟩:=ry;exact ne_int (qv I q (congrArg not zRL))
   | str j=>obtain ⟨t',rfl⟩:=ry;exact PySem.EqMixed.ne_int_str (qv I q (by simp))
   | _=>exact absurd (show false=true from hs) Bool.false_ne_true
 | str i =>
   obtain ⟨t,rfl⟩:=rx;cases y with
   | non=>cases ry;exact PySem.EqNone.ne_str_none (qv I q (by simp))
   | bl j=>cases ry;exact PySem.EqMixed.ne_str_bool (qv I q (by simp))
   | int j=>obtain ⟨t',rfl⟩:=ry;exact PySem.EqMixed.ne_str_int (qv I q (by simp))
   | str j=>obtain ⟨t',rfl⟩:=ry;exact ne_str (qv I q (congrArg not zRM))
   | _=>exact absurd (show false=true from hs) Bool.false_ne_true
 | byt i =>
   obtain ⟨t,rfl⟩:=rx;cases y with
   | byt j=>obtain ⟨t',rfl⟩:=ry;exact PySem.W.ne_bytes (qv I q (congrArg not zRN))
   | _=>exact absurd (show false=true from hs) Bool.false_ne_true
 | _=>cases y <;> exact absurd (show false=true from hs) Bool.false_ne_true
theorem zFB:OpR X (compareOp .Lt) (rI0 fun i j=>.bl (decide (i < j))):=zYB fun _ _ _ _ _ _ _ q=>lt_int q
theorem zDl:OpR X (compareOp .LtE) (rI0 fun i j=>.bl (decide (i<=j))):=zYB fun _ _ _ _ _ _ _ q=>le_int q
theorem zP6:OpR X (compareOp .Gt) (rI0 fun i j=>.bl (decide (j < i))):=zYB fun _ _ _ _ _ _ _ q=>gt_int q
theorem zRO:OpR X (compareOp .GtE) (rI0 fun i j=>.bl (decide (j<=i))):=zYB fun _ _ _ _ _ _ _ q=>ge_int q
theorem zX (b:Expr){op:CmpOp}(h:op≠.In:=by decide)(h2:op≠.NotIn:=by decide):behindInMarks op b=false:=by
 have e1:(op == CmpOp.In)=false:=by cases op <;> first | rfl | exact absurd rfl h
 have e2:(op == CmpOp.NotIn)=false:=by cases op <;> first | rfl | exact absurd rfl h2
 cases b <;> simp [behindInMarks,e1,e2]
theorem zBh {op:CmpOp}{r:R2}(ho:OpR X (compareOp op) r)(ha:PE X a ta)(hb:PE X b tb)(hm:behindInMarks op b=false):PE X (.Compare a [op] [b] pos) (tOp r ta tb):=by intro pins s Z H Q I h;exact wpAny_Compare1 (zYS ha hb I h fun v u s2 x y H2 I2 rx ry q=>ho pins s2 Z H2 x y v u Q I2 rx ry q) hm
def zNb (t:TE):TT:=fun Z H Q=>t Z H fun x H'=>∃ k,x=.bl k/\Q k H'
theorem zS {op:CmpOp}{r:R2}(ho:OpR X (compareOp op) r)(ha:PE X a ta)(hb:PE X b tb)(hm:behindInMarks op b=false):PT X (.Compare a [op] [b] pos) (zNb (tOp r ta tb)):=by
 intro pins s Z H Q I h;refine wpAny_isTrue_Compare1 (thn (ha pins s Z H _ I h) fun v s1 ⟨x,H1,I1,r1,q1⟩=>thn (hb pins s1 Z H1 _ I1 q1) fun u s2 ⟨y,H2,I2,r2,q2⟩ =>
   thn (ho pins s2 Z H2 x y v u _ I2 r1 r2 q2) fun c s3 ⟨z,H3,I3,r3,k,e,q3⟩=>?_) hm
 subst e;cases r3;exact wpAny_truthy_bool ⟨H3,I3,q3⟩
def zMS (r r' : R2)(ta tb tc:TE):TE:=fun Z H Q=>ta Z H fun x H1=>tb Z H1 fun y H2=>r x y H2 fun z H3=>∃ k,z=.bl k/\
 (if k=true then tc Z H3 fun w' H4=>r' y w' H4 Q else Q (.bl false) H3)
theorem zKv {op op' : CmpOp}{r r' : R2}(ho:OpR X (compareOp op) r)(ho' : OpR X (compareOp op') r')(ha:PE X a ta)(hb:PE X b tb)(hc:PE X c tc)(hm:lastMarks [op,op'] [b,c]=false:=by with_unfolding_all rfl):PE X (.Compare a [op,op'] [b,c] pos) (zMS r r' ta tb tc):=by
 intro pins s Z H Q I h;refine Compare_chain (thn (ha pins s Z H _ I h) fun v s1 ⟨x,H1,I1,r1,q1⟩=>chain_link (thn (hb pins s1 Z H1 _ I1 q1) fun u s2 ⟨y,H2,I2,r2,q2⟩ =>
   thn (ho pins s2 Z H2 x y v u _ I2 r1 r2 q2) fun d s3 ⟨z,H3,I3,r3,k,e,q3⟩=>?_)) hm
 subst e;cases r3;refine wpAny_truthy_bool ?_;cases k with
 | false=>exact ite_ff ⟨.bl false,H3,I3,rfl,q3⟩
 | true=>exact ite_tt (chain_last (thn (hc pins s3 Z H3 _ I3 q3) fun w' s4 ⟨z',H4,I4,r4,q4⟩=>ho' pins s4 Z H4 y z' u w' Q I4 r2 r4 q4))
theorem zKw {op op' : CmpOp}{r r' : R2}(ho:OpR X (compareOp op) r)(ho' : OpR X (compareOp op') r')(ha:PE X a ta)(hb:PE X b tb)(hc:PE X c tc)(hm:lastMarks [op,op'] [b,c]=false:=by with_unfolding_all rfl):PT X (.Compare a [op,op'] [b,c] pos) (zNb (zMS r r' ta tb tc)):=by
 intro pins s Z H Q I h;refine isTrue_chain (thn (ha pins s Z H _ I h) fun v s1 ⟨x,H1,I1,r1,q1⟩=>test_link (thn (hb pins s1 Z H1 _ I1 q1) fun u s2 ⟨y,H2,I2,r2,q2⟩ =>
   thn (ho pins s2 Z H2 x y v u _ I2 r1 r2 q2) fun d s3 ⟨z,H3,I3,r3,k,e,q3⟩=>?_)) hm
 subst e;cases r3;refine wpAny_truthy_bool ?_;cases k with
 | false =>obtain ⟨k',e',q'⟩:=q3;cases e';exact ite_ff ⟨H3,I3,q'⟩
 | true =>refine ite_tt (test_last (thn (hc pins s3 Z H3 _ I3 q3) fun w' s4 ⟨z',H4,I4,r4,q4⟩=>thn (ho' pins s4 Z H4 y z' u w' _ I4 r2 r4 q4) fun d' s5 ⟨z2,H5,I5,r5,k2,e2,q5⟩=>?_));subst e2;cases r5;exact wpAny_truthy_bool ⟨H5,I5,q5⟩
def zYT (K:Fg)(x:V)(H:Hp)(k:Bool):Prop :=
 match x with
 | .non=>k=false
 | .bl b=>k=b
 | .int i=>k=(i != 0)
 | .str y=>y.length<=sizeLine/\k=((y.length:Int) != 0)
 | .byt y=>y.size<=sizeLine/\k=((y.size:Int) != 0)
 | .ref p=>(∃ xs,SqL K H p xs/\k = !xs.isEmpty)\/(∃ xs,SqT K H p xs/\k = !xs.isEmpty)\/∃ kvs,H p=some (.dK kvs)/\k = !kvs.isEmpty
 | _=>False
theorem zP7 {κ:Type}{kvs:List (κ×V)}{vs:List (κ×Value)}(r:KV kvs vs):(!vs.isEmpty) = !kvs.isEmpty:=by cases r <;> rfl
theorem zJ9 {xs:List V}{its:List Value}(r:Vals xs its):(!its.toArray.isEmpty) = !xs.isEmpty:=by cases r <;> simp
theorem zKA:(sizeLine:Nat) < 2 ^ 63:=by rw [sizeLine_eq];decide
theorem zW4:zZQ X (fun x H Q=>∃ k,zYT X.K x H k/\Q k H):=by
 intro pins s Z H x v Q I rx h;obtain ⟨k,e,q⟩:=h;have hl:=zKA;have hs:sizeLine=16777216:=sizeLine_eq;cases x with
 | non =>cases rx;have e' : k=false:=e;subst e';exact truthy_none ⟨H,I,q⟩
 | bl b =>cases rx;have e' : k=b:=e;subst e';exact wpAny_truthy_bool ⟨H,I,q⟩
 | int i =>obtain ⟨t,rfl⟩:=rx;have e' : k=(i != 0):=e;subst e';exact PySem.P.truthy_int ⟨H,I,q⟩
 | str y =>obtain ⟨t,rfl⟩:=rx;obtain ⟨hy,e'⟩ : y.length<=sizeLine/\k=((y.length:Int) != 0):=e;subst e';exact PySem.P.truthy_str (by omega) ⟨H,I.tok _,q⟩
 | byt y =>obtain ⟨t,rfl⟩:=rx;obtain ⟨hy,e'⟩ : y.size<=sizeLine/\k=((y.size:Int) != 0):=e;subst e';exact PySem.W.truthy_bytes (by omega) ⟨H,I.tok _,q⟩
 | ref p =>
   cases rx;have e' : (∃ xs,SqL X.K H p xs/\k = !xs.isEmpty)\/(∃ xs,SqT X.K H p xs/\k = !xs.isEmpty)\/∃ kvs,H p=some (.dK kvs)/\k = !kvs.isEmpty:=e;rcases e' with ⟨xs,hx,e'⟩ | ⟨xs,hx,e'⟩ | ⟨kvs,hx,e'⟩
   . subst e';obtain ⟨its,r,pl,hz⟩:=I.list hx;have hlen:=r.length;exact wpAny_truthy_list pl.isList (by simp only [List.size_toArray];omega) ⟨H,I.tok _,by rw [zJ9 r];exact q⟩
   . subst e';obtain ⟨its,r,pl,hz⟩:=I.tuple hx;have hlen:=r.length;exact truthy_tuple pl (by simp only [List.size_toArray];omega) ⟨H,I.tok _,by rw [zJ9 r];exact q⟩
   . subst e';obtain ⟨hz,hS,vs,r,m⟩ : kvs.length<=sizeLine/\(p == sysModules)=false/\∃ vs,KV kvs vs/\s.heap.DictOf (z4 X.prog X.w) p vs:=I.hok p _ hx;have hlen:kvs.length=vs.length:=Paired.length r;exact wpAny_truthy_dict hS m (by omega) ⟨H,I.tok _,by rw [zP7 r];exact q⟩
 | _=>exact (show False from e).elim
theorem qQ (ha:PE X a ta)(he:∀ whole,isTrue a X.env whole=(do let v <- whole;standAt a.pos;holding [v] (truthy v))) : PT X a (fun Z H Q=>ta Z H fun x H'=>∃ k,zYT X.K x H' k/\Q k H'):=by intro pins s Z H Q I h;exact isTrue_plain (thn (ha pins s Z H _ I h) fun v s1 ⟨x,H1,I1,r1,q1⟩=>zW4 pins s1 Z H1 x v Q I1 r1 q1) (he _)
theorem vals1 {x:V}{us:List Value}(r:Vals [x] us):∃ u,us=[u]/\RelV x u:=by
 cases r with
 | cons r1 r2=>cases r2;exact ⟨_,rfl,r1⟩
theorem vals2 {x y:V}{us:List Value}(r:Vals [x,y] us):∃ u w',us=[u,w']/\RelV x u/\RelV y w':=by
 cases r with
 | cons r1 r2 =>
   cases r2 with
   | cons r3 r4=>cases r4;exact ⟨_,_,rfl,r1,r3⟩
theorem zOs:zH1 X (.builtin "abs") (fun xs H Q=>∃ i,xs=[.int i]/\Q (.int (if i < 0 then -i else i)) H):=by intro pins s Z H xs us Q I r h;obtain ⟨i,rfl,q⟩:=h;obtain ⟨u,rfl,t,rfl⟩:=vals1 r;exact call_abs_int fun u tk=>⟨.int (if i < 0 then -i else i),H,I.tok _,⟨_,rfl⟩,q⟩
theorem zRP (hc:X.calm=true):zH1 X (.builtin "max") (fun xs H Q=>∃ i j,xs=[.int i,.int j]/\Q (.int (if j > i then j else i)) H):=by
 intro pins s Z H xs us Q I r h;obtain ⟨i,j,rfl,q⟩:=h;obtain ⟨u,w',rfl,⟨t,rfl⟩,⟨t',rfl⟩⟩:=vals2 r;refine max_two_ints (I.ok.hd hc) fun h' tk k=>⟨_,H,I.kept k,?_,q⟩;by_cases hj:j > i
 . rw [if_pos hj,if_pos hj];exact ⟨_,rfl⟩
 . rw [if_neg hj,if_neg hj];exact ⟨_,rfl⟩
theorem zMT:zH1 X (.type "str") (fun xs H Q=>∃ i,xs=[.int i]/\i.natAbs.log2 < 1920/\Q (.str (toString i)) H):=by intro pins s Z H xs us Q I r h;obtain ⟨i,rfl,hz,q⟩:=h;obtain ⟨u,rfl,t,rfl⟩:=vals1 r;exact PySem.P.str_of_int hz ⟨.str _,H,I.tok _,⟨_,rfl⟩,q⟩
theorem zTb:zH1 X (.builtin "ord") (fun xs H Q=>∃ x,xs=[.str x]/\x.length=1/\Q (.int (x.cps.getD 0 0:Nat)) H):=by intro pins s Z H xs us Q I r h;obtain ⟨x,rfl,hz,q⟩:=h;obtain ⟨u,rfl,t,rfl⟩:=vals1 r;exact ord_of_one hz ⟨.int _,H,I.tok _,⟨_,rfl⟩,q⟩
end
structure zVY (h:Heap)(x dx C:Addr)(mA:Y3):Prop where
 obj:h.get? x=some (PySem.W.instObj C dx)
 ns:h.Ns1 dx mA
 ne:dx≠x
theorem zRQ {h:Heap}{dx:Addr}{mA:Y3}(n:h.Ns1 dx mA):∃ od,h.get? dx=some od/\∀ name,PySem.W.lookIn name od=some (mA name):=by
 obtain ⟨o,es,ep,ho,hd,hk,_,hm⟩:=n;refine ⟨o,ho,fun name=>?_⟩;have e:=hm name;unfold nsFind findBy at e;rw [<- Array.find?_toList] at e;unfold PySem.W.lookIn;rw [hd];dsimp only;split
 . rename_i y q;rw [q] at e;exact congrArg some e
 . rename_i q;rw [q] at e;have a:es.toList.any (·.refKey)=false:=by
     rw [List.any_eq_false];intro y hy;obtain ⟨z,t,hkey⟩:=hk y (Array.mem_toList_iff.mp hy);simp [DictEntry.refKey,hkey]
   have a' : ¬ es.toList.any (·.refKey)=true:=by rw [a];exact Bool.false_ne_true
   rw [if_neg a'];exact congrArg some e
theorem zVY.look {h:Heap}{x dx C:Addr}{mA:Y3}(I:zVY h x dx C mA):∃ od,PySem.W.InstAt h x (PySem.W.instObj C dx) C (some od)/\∀ name,PySem.W.lookIn name od=some (mA name) :=
 let ⟨od,ho,hl⟩:=zRQ I.ns
 ⟨od,⟨I.obj,rfl,rfl,ho⟩,hl⟩
section
variable {prog:Program}{w:World}{A:Around}{E:Y1}{s:Shared}{K:Fg}{x dx C f:Addr}{mA:Y3}{name:Str}{v:Value}
theorem get_map {expr:Bool}{Q:Y1}(X:K.In s.heap)(I:zVY s.heap x dx C mA)(hg:PySem.W.plainGet K C name=true)(hh:PySem.W.hasDictIn K C=true)(ha:PySem.W.findIn K (.ref C) name=some none)(hv:mA name=some v)(hv' : PySem.W.handedIn v=true)(h:Q v { s with toks:=s.toks+1 }) : wpAny (model prog w) A (getAttr (.ref x) name expr) Q E s:=by obtain ⟨od,J,hl⟩:=I.look;exact PySem.W.get_value X J (PySem.W.plainGet_of hg).1 (PySem.W.findObj_own hh ha rfl (by rw [hl,hv])) hv' h
theorem zTc {pl:Sem Bool}{Q:Value×List Value->Shared->Prop}(X:K.In s.heap)(I:zVY s.heap x dx C mA)(hg:PySem.W.plainGet K C name=true)(hf:PySem.W.findIn K (.ref C) name=some (some (.ref f)))(ht:PySem.W.isFn K (.ref f)=true)(hv:mA name=none)(h:Q (.ref f,[.ref x]) s) : wpAny (model prog w) A (getMethod (.ref x) name pl) Q E s:=by obtain ⟨od,J,hl⟩:=I.look;exact PySem.W.method_fn X J (PySem.W.plainGet_of hg).1 (PySem.W.plainGet_of hg).2 hf (beq_iff_eq.mp ht) (by show (PySem.W.lookIn name od).map (·.isSome)=some false;rw [hl,hv];rfl) h
theorem zVZ {ns:List Str}{Q:Unit->Shared->Prop}(X:K.In s.heap)(I:zVY s.heap x dx C mA)(hs:PySem.W.findIn K (.ref C) "__setattr__" = some (some (.builtin "object.__setattr__")))(hp:PySem.W.plainOver K C=true)(ht:PySem.W.takerIn K C name=some none)(hh:PySem.W.hasDictIn K C=true)(hw:PySem.Within mA ns)(hsz:ns.length<=sizeLine)(h:∀ h',zVY h' x dx C (fun y=>if y=name then some v else mA y)->Heap.SameBut dx s.heap h'->Q () { s with heap:=h',toks:=s.toks+2 }) : wpAny (model prog w) A (setAttr (.ref x) name v) Q E s:=by obtain ⟨od,J,hl⟩:=I.look;refine PySem.W.set_plain X J hs (PySem.W.osa_open (s:={ s with toks:=s.toks+1 }) (r:=none) X J hp ht fun b=>?_);obtain ⟨cd,hc,hd'⟩:=PySem.W.any_some hh;have hx:s.heap.get? x=some ⟨.ref C,some dx,.plain,#[]⟩:=I.obj;refine wpAny_bind (wpAny_pure (wpAny_bind (wpAny_bind (wpAny_loadPart hx (wpAny_bind (PySem.W.Looks.here (s:={ s with toks:=s.toks+1 }) (PySem.W.looks_clsIn X hc) ?_))))));rw [hd'];refine wpAny_pure (a:=some dx) (wpAny_bind (wpAny_pure (wpAny_bind ?_)));refine wpAny_nsSet1 (s:={ s with toks:=s.toks+1 }) I.ns fun h' hn2 hs2=>?_;obtain ⟨oD,esD,epD,hoD,hdD,hcD⟩:=hn2.count (PySem.Within.cons name v hw);refine wpAny_bind (wpAny_lookBehind hoD (by rw [hdD];exact pastItsLine_dict (Nat.le_trans hcD (by rw [List.length_cons];omega))) ?_);exact wpAny_pure (h _ ⟨(hs2.2 _ (Ne.symm I.ne)).trans I.obj,hn2,I.ne⟩ hs2)
theorem zOt {R:Result->Shared->Prop}{vs:List Value}{kw:List (Str×Value)}(X:K.In s.heap)(hm:PySem.W.makesIn K C=true)(hi:PySem.W.findIn K (.ref C) "__init__" = some (some (.ref f)))(hf:PySem.W.typeIn K (.ref f)=some (.type "function"))(h:codeAny (model prog w) (A.under (.builtin "type.__call__" ⟨.ref C :: vs,kw⟩)) (.call (.ref f) ⟨.ref (s.heap.objs.size+1) :: vs,kw⟩) (PySem.W.InitBack (s.heap.objs.size+1) R)
     { s with heap:=(s.heap.push PySem.W.emptyDict).push (PySem.W.instObj C s.heap.objs.size) }) :
   codeAny (model prog w) A (.call (.ref C) ⟨vs,kw⟩) R s:=by
 obtain ⟨hh,g,d,t,os⟩:=s;exact PySem.W.make_core (PySem.W.makes_of X hm) (PySem.W.looks_findIn X hi) (fun self=>PySem.W.bind_fn X self hf) (.inl rfl) h
end
def zH2 (f:Str)(v:V):List (Str×V)->List (Str×V)
 | []=>[(f,v)]
 | (g,x) :: r=>if g=f then (g,v) :: r else (g,x) :: zH2 f v r
theorem zH3 (f g:Str)(v:V):∀ fs:List (Str×V),(zH2 f v fs).lookup g=if g=f then some v else fs.lookup g
 | []=>by
   show List.lookup g [(f,v)]=_;by_cases h:g=f
   . have hb:(g == f)=true:=beq_iff_eq.mpr h;simp only [List.lookup,hb,if_pos h]
   . have hb:(g == f)=false:=beq_eq_false_iff_ne.mpr h;simp only [List.lookup,hb,if_neg h]
 | (k,x) :: r=>by
   have ih:=zH3 f g v r;rw [show zH2 f v ((k,x) :: r)=(if k=f then (k,v) :: r else (k,x) :: zH2 f v r) from rfl];by_cases hk:k=f
   . rw [if_pos hk];by_cases h:g=k
     . have hb:(g == k)=true:=beq_iff_eq.mpr h;simp only [List.lookup,hb,if_pos (h.trans hk)]
     . have hb:(g == k)=false:=beq_eq_false_iff_ne.mpr h;simp only [List.lookup,hb,if_neg (fun e:g=f=>h (e.trans hk.symm))]
   . rw [if_neg hk];by_cases h:g=k
     . have hb:(g == k)=true:=beq_iff_eq.mpr h;simp only [List.lookup,hb,if_neg (fun e:g=f=>hk (h.symm.trans e))]
     . have hb:(g == k)=false:=beq_eq_false_iff_ne.mpr h;simp only [List.lookup,hb];exact ih
theorem zH4 (f:Str)(v:V):∀ fs:List (Str×V),f∈(zH2 f v fs).map (·.1)/\∀ g,g∈fs.map (·.1)->g∈(zH2 f v fs).map (·.1)
 | []=>⟨by simp [zH2],fun g h=>by simp at h⟩
 | (k,x) :: r=>by
   obtain ⟨i1,i2⟩:=zH4 f v r;rw [show zH2 f v ((k,x) :: r)=(if k=f then (k,v) :: r else (k,x) :: zH2 f v r) from rfl];by_cases hk:k=f
   . rw [if_pos hk];subst hk;exact ⟨by simp,fun g h=>by simpa using h⟩
   . rw [if_neg hk];refine ⟨?_,fun g h=>?_⟩
     . rw [List.map_cons];exact List.mem_cons_of_mem _ i1
     . rw [List.map_cons] at h ⊢;rcases List.mem_cons.mp h with e | e
       . exact List.mem_cons.mpr (.inl e)
       . exact List.mem_cons_of_mem _ (i2 g e)
theorem zH5 (f:Str)(v:V):∀ fs:List (Str×V),(zH2 f v fs).length<=fs.length+1
 | []=>by simp [zH2]
 | (k,x) :: r=>by
   have ih:=zH5 f v r;rw [show zH2 f v ((k,x) :: r)=(if k=f then (k,v) :: r else (k,x) :: zH2 f v r) from rfl];by_cases hk:k=f
   . rw [if_pos hk,List.length_cons,List.length_cons];omega
   . rw [if_neg hk,List.length_cons,List.length_cons];omega
theorem zKq.some_of {v:V}{o:Option Value}(r:zKq (some v) o):∃ u,o=some u/\RelV v u:=by
 cases o with
 | none=>exact (show False from r).elim
 | some u=>exact ⟨u,rfl,r⟩
theorem zKq.none_of {o:Option Value}(r:zKq none o):o=none:=by
 cases o with
 | none=>rfl
 | some u=>exact (show False from r).elim
theorem zRR {v:V}{u:Value}(r:RelV v u):PySem.W.handedIn u=true:=by
 cases v with
 | non=>cases (show u=Value.none from r);rfl
 | bl b=>cases (show u=Value.bool b from r);rfl
 | int i=>obtain ⟨t,e⟩:=(show ∃ t,u=Value.int i t from r);cases e;rfl
 | str x=>obtain ⟨t,e⟩:=(show ∃ t,u=Value.str x t from r);cases e;rfl
 | byt b=>obtain ⟨t,e⟩:=(show ∃ t,u=Value.bytes b t from r);cases e;rfl
 | flt b=>obtain ⟨t,e⟩:=(show ∃ t,u=Value.float b t from r);cases e;rfl
 | ref a=>cases (show u=Value.ref a from r);rfl
 | ty n=>cases (show u=Value.type n from r);rfl
section
variable {P:Program}{w:World}{H H' : Hp}{h h' : Heap}{a C dx:Addr}{fs fs' : List (Str×V)}
theorem zNc (hok:HOk P w H h)(e:H a=some (.ins C dx fs)):∃ mA,zVY h a dx C mA/\(∀ f,zKq (fs.lookup f) (mA f))/\PySem.Within mA (fs.map (·.1))/\fs.length<=1000/\H dx=some (.own a):=by obtain ⟨d,z,ne,ob,mA,n,r,q⟩:=(show jj P w H h a (.ins C dx fs) from hok a _ e);exact ⟨mA,⟨ob,n,ne⟩,r,q,z,d⟩
end
structure Cls (K:Fg)(C:Addr):Prop where
 pg:PySem.W.plainGet K C Str.empty=true
 hd:PySem.W.hasDictIn K C=true
 po:PySem.W.plainOver K C=true
 sa:PySem.W.findIn K (.ref C) "__setattr__" = some (some (.builtin "object.__setattr__"))
theorem Cls.get {K:Fg}{C:Addr}(c:Cls K C)(f:Str):PySem.W.plainGet K C f=true:=c.pg
def zp (K:Fg)(C:Addr)(f:Str):Prop:=PySem.W.findIn K (.ref C) f=some none
theorem zp.zYU {K:Fg}{C:Addr}{f:Str}(n:zp K C f):PySem.W.takerIn K C f=some none:=by unfold PySem.W.takerIn;rw [show PySem.W.findIn K (.ref C) f=some none from n];rfl
structure Meth (K:Fg)(C:Addr)(m:Str)(f:Addr):Prop where
 at_:PySem.W.findIn K (.ref C) m=some (some (.ref f))
 fn:PySem.W.isFn K (.ref f)=true
 kp:PySem.W.keepIn K (.ref f)=true
section
variable {X:Cx}{pins:Y2}{Z:St}{H:Hp}{s:Shared}{a C dx:Addr}{fs:List (Str×V)}{f:Str}{v:V}{A:Around}{E:Y1}
theorem zKB {b:Bool}{Q:Y1}(I:Inv X pins Z H s)(e:H a=some (.ins C dx fs))(c:Cls X.K C)(n:zp X.K C f)(l:fs.lookup f=some v)(h:∀ u s',Inv X pins Z H s'->RelV v u->Q u s'):wpAny (model X.prog X.w) A (getAttr (.ref a) f b) Q E s:=by obtain ⟨mA,O,r,_,_,_⟩:=zNc I.hok e;obtain ⟨u,hu,ru⟩:=zKq.some_of (v:=v) (o:=mA f) (by rw [<- l];exact r f);exact get_map I.kIn O (c.get f) c.hd n hu (zRR ru) (h u _ (I.tok _) ru)
theorem zGi {m:Str}{g:Addr}{pl:Sem Bool}{Q:Value×List Value->Shared->Prop}(I:Inv X pins Z H s)(e:H a=some (.ins C dx fs))(c:Cls X.K C)(k:Meth X.K C m g)(l:fs.lookup m=none)(h:Q (.ref g,[.ref a]) s):wpAny (model X.prog X.w) A (getMethod (.ref a) m pl) Q E s:=by obtain ⟨mA,O,r,_,_,_⟩:=zNc I.hok e;have hn:mA m=none:=zKq.none_of (by rw [<- l];exact r m);exact zTc I.kIn O (c.get m) k.at_ k.fn hn h
theorem zKC {y:V}{u:Value}{Q:Unit->Shared->Prop}(I:Inv X pins Z H s)(e:H a=some (.ins C dx fs))(c:Cls X.K C)(n:zp X.K C f)(hl:fs.length < 1000)(ry:RelV y u)(h:∀ s',Inv X pins Z (upd H a (.ins C dx (zH2 f y fs))) s'->Q () s'):wpAny (model X.prog X.w) A (setAttr (.ref a) f u) Q E s:=by
 obtain ⟨mA,O,r,wi,_,ho⟩:=zNc I.hok e;have hz:(fs.map (·.1)).length<=sizeLine:=by rw [List.length_map,sizeLine_eq];omega
 refine zVZ I.kIn O c.sa c.po n.zYU c.hd wi hz fun h' O' sb=>h _ ?_;have hd:∃ o,h'.get? dx=some o:=let ⟨o,_,_,e',_⟩:=O'.ns;⟨o,e'⟩;refine I.write (x:=a) (e:=dx) (by rw [e];exact True.intro) (.inr ho) (fun b q hb z=>(sb.2 b hb).trans z) hd ?_;refine ⟨by rw [zF O.ne];exact ho,?_,O.ne,O'.obj,_,O'.ns,fun g=>?_,fun g hg=>?_⟩
 . have:=zH5 f y fs;omega
 . show zKq ((zH2 f y fs).lookup g) (if g=f then some u else mA g);rw [zH3];by_cases q:g=f
   . rw [if_pos q,if_pos q];exact ry
   . rw [if_neg q,if_neg q];exact r g
 . by_cases q:g=f
   . rw [q];exact (zH4 f y fs).1
   . refine (zH4 f y fs).2 g (wi g fun z=>hg ?_);show (if g=f then some u else mA g)=none;rw [if_neg q];exact z
theorem Inv.made (I:Inv X pins Z H s):Inv X pins Z (upd (upd H s.heap.objs.size (.own (s.heap.objs.size+1))) (s.heap.objs.size+1) (.ins C s.heap.objs.size [])) { s with heap:=(s.heap.push PySem.W.emptyDict).push (PySem.W.instObj C s.heap.objs.size) }:=by
 have e1:(s.heap.push PySem.W.emptyDict).get? s.heap.objs.size=some PySem.W.emptyDict:=Heap.get?_push_size s.heap rfl;have e2:((s.heap.push PySem.W.emptyDict).push (PySem.W.instObj C s.heap.objs.size)).get? (s.heap.objs.size+1)=some (PySem.W.instObj C s.heap.objs.size):=by
   have:=Heap.get?_push_size (s.heap.push PySem.W.emptyDict) (o:=PySem.W.instObj C s.heap.objs.size) rfl
   rwa [Heap.size_push] at this
 have e3:(s.heap.push PySem.W.emptyDict).Ns s.heap.objs.size (fun _=>none):=⟨PySem.W.emptyDict,#[],_,e1,rfl,(fun e he=>absurd he (by simp)),fun _=>rfl⟩;have I1:=I.laid (a:=s.heap.objs.size) (o:=.own (s.heap.objs.size+1)) (h':=s.heap.push PySem.W.emptyDict) (t':=s.toks) (fun b u q=>Heap.get?_push_of_some _ q) (Nat.le_refl _) ⟨_,e1⟩;refine I1.laid (a:=s.heap.objs.size+1) (o:=.ins C s.heap.objs.size []) (t':=s.toks) (fun b u q=>Heap.get?_push_of_some _ q) (Nat.le_of_eq (Heap.size_push _ _)) ?_;have ne:s.heap.objs.size≠s.heap.objs.size+1:=Nat.ne_of_lt (Nat.lt_succ_self _);refine ⟨by rw [zF ne,zB],Nat.zero_le _,ne,e2,fun _=>none,(Heap.Ns1.of_empty e3).at fun o q=>Heap.get?_push_of_some _ q,fun _=>True.intro,fun y hy=>absurd rfl hy⟩
theorem zRS {prog:Program}{w:World}{env:Env}{e:Expr}{f:Str}{pos:Pos}{s:Shared}{Q:Y1}(hb:attributeBase e f env (eval e env)=eval e env)(h:wpAny (model prog w) A (eval e env) (fun o s₁=>wpAny (model prog w) A (getAttr o f true) Q E s₁) E s):wpAny (model prog w) A (eval (.Attribute e f pos) env) Q E s :=
 Attribute_any_ h (by rw [arm_eval_Attribute,hb])
end
inductive Fld (K:Fg)(H:Hp)(a:Addr)(f:Str)(Q:V->Prop):Prop | m (C dx:Addr)(fs:List (Str×V))(_:H a=some (.ins C dx fs))(_:Cls K C)(_:zp K C f)(v:V)(_:fs.lookup f=some v)(_:Q v)
def zYD (K:Fg)(ta:TE)(f:Str):TE:=fun Z H Q=>ta Z H fun x H1=>∃ a,x=.ref a/\Fld K H1 a f fun v=>Q v H1
inductive SFl (K:Fg)(H:Hp)(a:Addr)(f:Str)(R:Addr->Addr->List (Str×V)->Prop):Prop | m (C dx:Addr)(fs:List (Str×V))(_:H a=some (.ins C dx fs))(_:Cls K C)(_:zp K C f)(_:fs.length < 1000)(_:R C dx fs)
def zW5 (K:Fg)(ta tv:TE)(f:Str):TS:=fun D Z H=>tv Z H fun y H1=>ta Z H1 fun x H2=>∃ a,x=.ref a/\SFl K H2 a f fun C dx fs=>D.nx Z (upd H2 a (.ins C dx (zH2 f y fs)))
def zY2 (X:Cx)(op:Operator)(rd:V->V->Hp->VK->Prop):Prop :=
 ∀ (pins:Y2)(s:Shared)(Z:St)(H:Hp)(x y:V)(u v:Value)(Q:VK),Inv X pins Z H s->RelV x u->RelV y v->rd x y H Q->wpAny (model X.prog X.w) X.A (inplaceOp op u v) (EP X pins Z Q) X.xe s
inductive FlA (K:Fg)(H:Hp)(a:Addr)(f:Str)(R:Addr->V->Prop):Prop | m (C dx:Addr)(fs:List (Str×V))(_:H a=some (.ins C dx fs))(_:Cls K C)(_:zp K C f)(v:V)(_:fs.lookup f=some v)(_:R C v)
def zKx (K:Fg)(ta tv:TE)(rd:V->V->Hp->VK->Prop)(f:Str):TS:=fun D Z H=>ta Z H fun x H1=>∃ a,x=.ref a/\FlA K H1 a f fun C v=>tv Z H1 fun y H2=>rd v y H2 fun z H3=>∃ dx' fs',H3 a=some (.ins C dx' fs')/\fs'.length < 1000/\D.nx Z (upd H3 a (.ins C dx' (zH2 f z fs')))
section
variable {X:Cx}{o e value:Expr}{f:Str}{pos pos' tpos:Pos}{ta tv:TE}
theorem zU (he:PE X e ta)(hb:attributeBase e f X.env (eval e X.env)=eval e X.env):PE X (.Attribute e f pos) (zYD X.K ta f):=by intro pins s Z H Q I h;refine zRS hb (thn (he pins s Z H _ I h) ?_);rintro u s1 ⟨x,H1,I1,rx,a,ex,C,dx,fs,ea,c,n,v,l,q⟩;subst ex;obtain rfl:u=Value.ref a:=rx;exact zKB I1 ea c n l fun u' s2 I2 ru=>⟨v,H1,I2,ru,q⟩
theorem jT (ha:PE X o ta)(hv:PE X value tv)(hs:swapsWith value (some (.Attribute o f pos')) pos.line X.env=pure false):PS X (.Assign [.Attribute o f pos'] value pos) (zW5 X.K ta tv f):=by intro pins s Z H D I h;refine plainObj_wpAny_Assign_Attribute (thn (hv pins s Z H _ I h) fun u s1 ⟨y,H1,I1,ry,q⟩=>thn (ha pins s1 Z H1 _ I1 q) fun ov s2 ⟨x,H2,I2,rx,a,ex,C,dx,fs,ea,c,n,l,q2⟩=>?_) hs;subst ex;obtain rfl:ov=Value.ref a:=rx;exact zKC I2 ea c n l ry fun s3 I3=>⟨Z,_,I3,q2⟩
theorem zFt {op:Operator}{rd:V->V->Hp->VK->Prop}(ha:PE X o ta)(hv:PE X value tv)(hop:zY2 X op rd):PS X (.AugAssign (.Attribute o f tpos) op value pos) (zKx X.K ta tv rd f):=by intro pins s Z H D I h;refine wpAny_AugAssign_AttributeAny (thn (ha pins s Z H _ I h) ?_);rintro ov s1 ⟨x,H1,I1,rx,a,ex,C,dx,fs,ea,c,n,v,l,q⟩;subst ex;obtain rfl:ov=Value.ref a:=rx;refine zKB I1 ea c n l fun u s2 I2 ru=>thn (hv pins s2 Z H1 _ I2 q) fun w3 s3 ⟨y,H2,I3,ry,q3⟩=>thn (hop pins s3 Z H2 v y u w3 _ I3 ru ry q3) ?_;rintro w4 s4 ⟨z,H3,I4,rz,dx',fs',ea',l',q4⟩;exact zKC I4 ea' c n l' rz fun s5 I5=>⟨Z,_,I5,q4⟩
def zYE:V->V->Hp->VK->Prop:=fun x y H Q=>∃ i j,x=.int i/\y=.int j/\Q (.int (i+j)) H
def zYV:V->V->Hp->VK->Prop:=fun x y H Q=>∃ i j,x=.int i/\y=.int j/\Q (.int (i - j)) H
theorem zOu:zY2 X .Add zYE:=by rintro pins s Z H x y u v Q I rx ry ⟨i,j,rfl,rfl,q⟩;obtain ⟨t,rfl⟩:=(show ∃ t,u=Value.int i t from rx);obtain ⟨t',rfl⟩:=(show ∃ t',v=Value.int j t' from ry);exact PyProof.Rows.iadd_int ⟨.int (i+j),H,I.tok _,⟨_,rfl⟩,q⟩
theorem zVa {pl:Sem Bool}{m:Str}{apos:Pos}{args:List Expr}{pins:Y2}{s:Shared}{Z:St}{H:Hp}{Q:Y1}{te:TE}(he:PE X e te)(I:Inv X pins Z H s)(h:te Z H fun x H1=>∃ a C dx fs g,x=.ref a/\H1 a=some (.ins C dx fs)/\Cls X.K C/\Meth X.K C m g/\fs.lookup m=none/\
     ∀ s1,Inv X pins Z H1 s1->wpAny (model X.prog X.w) X.A (callWith pos (.ref g) [.ref a] (backTo pos (starEach args X.env)) (backToKw pos (keywordEach [] X.env))) Q X.xe s1)
   (ht:eval (.Call (.Attribute e m apos) args [] pos) X.env=(do
     let ov <- eval e X.env
     standAt apos.atName
     let (f,first) <- holding [ov] (getMethod ov m pl)
     callWith pos f first (backTo pos (starEach args X.env)) (backToKw pos (keywordEach [] X.env)))) :
   wpAny (model X.prog X.w) X.A (eval (.Call (.Attribute e m apos) args [] pos) X.env) Q X.xe s:=by
 refine PySem.W.methodCall_KW (pl:=pl) (thn (he pins s Z H _ I h) ?_) ht;rintro u s1 ⟨x,H1,I1,rx,a,C,dx,fs,g,ex,ea,c,k,l,q⟩;subst ex;obtain rfl:u=Value.ref a:=rx;exact zGi I1 ea c k l (q s1 I1)
end
section
variable {X:Cx}{pins:Y2}{Z:St}{H:Hp}{s:Shared}{A:Around}{E:Y1}{Q:Y1}{c:Value}{b:Bool}
end
structure zDi (k:Nat)(A:Around):Prop where
 hd:A.handled=none
 dp:A.depth+3 * k+5 < recursionLimit
 un:A.units+16 * k+200 < cLine
theorem zDi.mono {j k:Nat}{A:Around}(r:zDi k A)(h:j<=k):zDi j A:=⟨r.hd,by have:=r.dp;omega,by have:=r.un;omega⟩
theorem zDi.deeper {k:Nat}{A:Around}(r:zDi (k+1) A)(env:Env):zDi k (A.deeper env) :=
 ⟨r.hd,by have:=r.dp;show A.depth+1+3 * k+5 < _;omega,by have:=r.un;show A.units+3+16 * k+200 < _;omega⟩
theorem zKD {A:Around}{C:Addr}{us:List Value}{kw:List (Str×Value)}:(A.under (.builtin "type.__call__" ⟨.ref C :: us,kw⟩)).depth=A.depth+1:=by
 first | rfl | simp [Around.under,Code.weight,Code.isCreation,Code.isGuard,Code.isCaller,Code.frames,Code.isFrame,guardIds]
theorem zKE {A:Around}{C:Addr}{us:List Value}{kw:List (Str×Value)}:(A.under (.builtin "type.__call__" ⟨.ref C :: us,kw⟩)).units=A.units+1:=by
 first | rfl | simp [Around.under,Code.cUnits,Code.frames,Code.isFrame]
theorem zDi.make {k:Nat}{A:Around}(r:zDi (k+1) A)(C:Addr)(us:List Value)(kw:List (Str×Value)):zDi k (A.under (.builtin "type.__call__" ⟨.ref C :: us,kw⟩)) :=
 ⟨r.hd,by have:=r.dp;rw [zKD];omega,by have:=r.un;rw [zKE];omega⟩
theorem zDi.depth {k:Nat}{A:Around}(r:zDi k A):A.depth < recursionLimit:=by have:=r.dp;omega
theorem zDi.units {k:Nat}{A:Around}(r:zDi k A):A.units+64 < cLine:=by have:=r.un;omega
def zP8:TA:=fun _ H Q=>Q [] H
def zGj (ta:TE)(tr:TA):TA:=fun Z H Q=>ta Z H fun x H1=>tr Z H1 fun xs H2=>Q (x :: xs) H2
section
variable {X:Cx}{e:Expr}{es:List Expr}{te:TE}{t:TA}{pos:Pos}
theorem zD:PA X [] zP8:=fun _ _ _ _ H Q I h=>Calls.spliced_nil ⟨[],H,I,.nil,h⟩
theorem zA (ha:PE X e te)(hr:PA X es t)(hs:starEach (e :: es) X.env=(false,eval e X.env) :: starEach es X.env:=by rfl):PA X (e :: es) (zGj te t):=by intro pos pins s Z H Q I h;rw [hs];show wpAny _ _ (spliced ((false,eval e X.env) :: backTo pos (starEach es X.env))) _ _ s;refine Calls.spliced_cons (thn (ha pins s Z H _ I h) ?_);rintro u s1 ⟨x,H1,I1,r1,q1⟩;exact thn (hr pos pins s1 Z H1 _ I1 q1) fun us s2 ⟨xs,H2,I2,r2,q2⟩=>⟨x :: xs,H2,I2,.cons r1 r2,q2⟩
inductive New (n:Nat)(H:Hp)(o:HO)(Q:Addr->Hp->Prop):Prop | m (_:n<=sizeLine)(_:∀ p,H p=none->Q p (upd H p o))
def zYF (t:TA):TE:=fun Z H Q=>t Z H fun xs H1=>New xs.length H1 (.tup xs) fun p H2=>Q (.ref p) H2
def zYG (t:TA):TE:=fun Z H Q=>t Z H fun xs H1=>New xs.length H1 (.lst xs) fun p H2=>Q (.ref p) H2
theorem zH6 {x1}(h:PA X es t):PE X (.Tuple es x1 pos) (zYF t):=by intro pins s Z H Q I hq;refine wpAny_Tuple_spliced (thn (h pos pins s Z H _ I hq) fun us s1 ⟨xs,H1,I1,r,z,q⟩=>⟨by rw [<- r.length];exact z,?_⟩);have hf:H1 s1.heap.objs.size=none:=I1.hok.fresh (Nat.le_refl _);refine ⟨.ref s1.heap.objs.size,upd H1 s1.heap.objs.size (.tup xs),I1.laid (t':=s1.toks) (fun b u e=>Heap.get?_push_of_some _ e) (Nat.le_refl _) ?_,rfl,q _ hf⟩;exact ⟨z,us,r,⟨_,Heap.get?_push_size _ rfl,rfl,_,rfl⟩⟩
theorem qY (h:PA X es t):PE X (.List es pos) (zYG t):=by intro pins s Z H Q I hq;refine wpAny_List_spliced (thn (h pos pins s Z H _ I hq) fun us s1 ⟨xs,H1,I1,r,z,q⟩=>⟨by rw [<- r.length];exact z,?_⟩);have hf:H1 s1.heap.objs.size=none:=I1.hok.fresh (Nat.le_refl _);refine ⟨.ref s1.heap.objs.size,upd H1 s1.heap.objs.size (.lst xs),I1.laid (t':=s1.toks) (fun b u e=>Heap.get?_push_of_some _ e) (Nat.le_refl _) ?_,rfl,q _ hf⟩;exact ⟨z,us,0,r,Heap.get?_push_size _ rfl⟩
end
abbrev Sp:=List V->Hp->VK->XK->Prop
abbrev CXT:=List Env->Hp->Shared->XK->Value->Shared->Prop
structure zTd (P:Program)(w:World)(K:Fg)(mg:Y3)(base:Heap)(A:Around)(outer:List Env)(s:Shared)(H:Hp):Prop where
 frames:A.frames=some outer
 mod:Mod K mg base
 bs:∀ b o,base.get? b=some o->s.heap.get? b=some o/\H b=none
 bsz:base.objs.size<=s.heap.objs.size
 zML:s.heap.FunFrames base outer
 frf:∀ b∈frs outer,H b=none
 hok:HOk P w H s.heap
 bare:AllBare s.gens
def CE (outer:List Env)(P:Program)(w:World)(H:Hp)(s:Shared)(Q:VK)(u:Value)(s' : Shared):Prop :=
 ∃ v H',s'.os=s.os/\AllBare s'.gens/\Un (frs outer) [] H H' s.heap s'.heap/\HOk P w H' s'.heap/\RelV v u/\Q v H'
def CR (CX:CXT)(outer:List Env)(P:Program)(w:World)(H:Hp)(s:Shared)(Q:VK)(E:XK)(r:Result)(s' : Shared):Prop :=
 match r with
 | .ok (.ret u)=>CE outer P w H s Q u s'
 | .ok _=>False
 | .error e=>CX outer H s E e s'
structure qM (P:Program)(w:World)(K:Fg)(mg:Y3)(base:Heap)(CX:CXT)(k:Nat)(f:Addr)(fd:FuncData)(ps:List Str)(sp:Sp):Prop where
 len:∀ vs H Q E,sp vs H Q E->vs.length=ps.length
 run:∀ (A:Around)(outer:List Env)(s:Shared)(H:Hp)(args:Args)(us:List Value)(vs:List V)(Q:VK)(E:XK),zDi k A->zTd P w K mg base A outer s H->BindsTo s fd args (ps.zip us)->Vals vs us->sp vs H Q E->
   codeAny (model P w) A (.call (.ref f) args) (CR CX outer P w H s Q E) s
theorem zTd.make {P:Program}{w:World}{K:Fg}{mg:Y3}{base:Heap}{A:Around}{outer:List Env}{s:Shared}{H:Hp}(e:zTd P w K mg base A outer s H)(C:Addr)(us:List Value)(kw:List (Str×Value)) : zTd P w K mg base (A.under (.builtin "type.__call__" ⟨.ref C :: us,kw⟩)) outer s H:=⟨by first | exact e.frames | (simpa [Around.under,Code.envs,Code.isFrame,pushEnvs] using e.frames),e.mod,e.bs,e.bsz,e.zML,e.frf,e.hok,e.bare⟩
section
variable {X:Cx}{pins:Y2}{Z:St}{H:Hp}{s s' : Shared}
theorem Inv.zW6 (I:Inv X pins Z H s):zTd X.prog X.w X.K X.mg X.base X.A X.stack s H :=
 ⟨I.ok.frames,I.ok.mod,I.bs,Nat.le_trans I.ok.bsz I.sz,I.stack,I.zKs,I.hok,I.bare⟩
theorem Inv.after {Q:VK}{u:Value}(I:Inv X pins Z H s)(h:CE X.stack X.prog X.w H s Q u s'):EP X pins Z Q u s':=by obtain ⟨v,H',os,bare,un,hok,r,q⟩:=h;obtain ⟨hh,g,d,t,os'⟩:=s';obtain rfl:os' = s.os:=os;exact ⟨v,H',I.call (h':=hh) (g':=g) (d':=d) (t':=t) (ch:=[]) un hok bare (fun b z=>absurd z (by simp)),r,q⟩
end
def zJY (sp:Sp)(dvs:List V)(E:XK)(t:TA):TE:=fun Z H Q=>t Z H fun vs H1=>sp (vs ++ dvs) H1 Q E
inductive Met (H:Hp)(a C:Addr)(m:Str)(R:Prop):Prop | m (dx:Addr)(fs:List (Str×V))(_:H a=some (.ins C dx fs))(_:fs.lookup m=none)(_:R)
def zNd (C:Addr)(m:Str)(sp:Sp)(dvs:List V)(E:XK)(ta:TE)(t:TA):TE:=fun Z H Q=>ta Z H fun x H1=>∃ a,x=.ref a/\Met H1 a C m (t Z H1 fun vs H2=>sp (x :: (vs ++ dvs)) H2 Q E)
def zP9 (C:Addr)(sp:Sp)(dvs:List V)(E:XK)(t:TA):TE:=fun Z H Q=>t Z H fun vs H1=>∀ x dx,H1 x=none->H1 dx=none->dx≠x->
 sp (.ref x :: (vs ++ dvs)) (upd (upd H1 dx (.own x)) x (.ins C dx [])) (fun v H2=>v=.non/\Q (.ref x) H2) E
def Binds (K:Fg)(fd:FuncData)(ps:List Str)(ds:List Value):Prop :=
 ∀ (s:Shared)(us:List Value),K.In s.heap->(us ++ ds).length=ps.length->BindsTo s fd ⟨us,[]⟩ (ps.zip (us ++ ds))
theorem Binds.all {K:Fg}{fd:FuncData}{ps:List Str}(h:∀ us:List Value,us.length=ps.length->bindArgs fd ⟨us,[]⟩=pure (ps.zip us)):Binds K fd ps []:=fun s us _ hl=>by rw [List.append_nil] at hl ⊢;exact .of_eq (h us hl)
def Passes (CX:CXT)(X:Cx)(E:XK):Prop:=∀ (pins:Y2)(Z:St)(H:Hp)(s:Shared)(e:Value)(s' : Shared),Inv X pins Z H s->CX X.stack H s E e s'->X.xe e s'
section
variable {X:Cx}{CX:CXT}{k:Nat}{f C:Addr}{fd:FuncData}{ps:List Str}{sp:Sp}{dvs:List V}{ds:List Value}{E:XK}{x m:Str}{p pos apos:Pos}{e o:Expr}{es:List Expr}{ta:TE}{t:TA}
theorem zRT {pins:Y2}{Z:St}{H:Hp}{s:Shared}{Q:VK}{us:List Value}{vs:List V}(F:qM X.prog X.w X.K X.mg X.base CX k f fd ps sp)(hr:zDi k X.A)(hb:Binds X.K fd ps ds)(hd:Vals dvs ds)(hx:Passes CX X E)(I:Inv X pins Z H s)(r:Vals vs us)(h:sp (vs ++ dvs) H Q E):wpAny (model X.prog X.w) X.A (call (.ref f) us) (EP X pins Z Q) X.xe s:=by
 have r2:Vals (vs ++ dvs) (us ++ ds):=r.append hd;have hl:(us ++ ds).length=ps.length:=by rw [<- r2.length];exact F.len _ _ _ _ h
 refine wpAny_call (codeAny_mono (F.run X.A X.stack s H ⟨us,[]⟩ (us ++ ds) (vs ++ dvs) Q E hr I.zW6 (hb s us I.kIn hl) r2 h) fun r s' hq=>?_);cases r with
 | error e=>exact hx pins Z H s e s' I hq
 | ok fl =>
   cases fl with
   | ret u=>exact I.after hq
   | next=>exact False.elim hq
   | brk=>exact False.elim hq
   | cont=>exact False.elim hq
theorem zFN (F:qM X.prog X.w X.K X.mg X.base CX k f fd ps sp)(hr:zDi k X.A)(hg:Gl X x)(hm:X.mg x=some (.ref f))(hk:PySem.W.keepIn X.K (.ref f)=true)(hb:Binds X.K fd ps ds)(hd:Vals dvs ds)(hx:Passes CX X E)(ha:PA X (e :: es) t)(hdb:(x == ("__debug__" : Str))=false:=by decide)(he:starEach (e :: es) X.env=(false,eval e X.env) :: starEach es X.env:=by rfl)(hpl:(backTo pos (starEach es X.env)).any (·.1)=false:=by rfl) : PE X (.Call (.Name x p) (e :: es) [] pos) (zJY sp dvs E t):=by intro pins s Z H Q I h;refine wpAny_Call_Name_kw (zDj I hg hm ?_ hdb);refine PySem.W.callWith_K (h₀:=X.base) I.ok.mod.kin hk (thn (ha pos pins s Z H _ I h) fun us s1 ⟨vs,H1,I1,r,q⟩=>⟨I1.kIn,?_⟩) he hpl;exact zRT F hr hb hd hx I1 r q
theorem zVb {pl:Sem Bool}(he:PE X o ta)(c:Cls X.K C)(hm:Meth X.K C m f)(F:qM X.prog X.w X.K X.mg X.base CX k f fd ps sp)(hr:zDi k X.A)(hb:Binds X.K fd ps ds)(hd:Vals dvs ds)(hx:Passes CX X E)(ha:PA X (e :: es) t)(hst:starEach (e :: es) X.env=(false,eval e X.env) :: starEach es X.env:=by rfl)(hpl:(backTo pos (starEach es X.env)).any (·.1)=false:=by rfl)(ht:eval (.Call (.Attribute o m apos) (e :: es) [] pos) X.env=(do
     let ov <- eval o X.env
     standAt apos.atName
     let (f,first) <- holding [ov] (getMethod ov m pl)
     callWith pos f first (backTo pos (starEach (e :: es) X.env)) (backToKw pos (keywordEach [] X.env))):=by rfl) :
   PE X (.Call (.Attribute o m apos) (e :: es) [] pos) (zNd C m sp dvs E ta t):=by
 intro pins s Z H Q I h;refine PySem.W.methodCall_KW (pl:=pl) (thn (he pins s Z H _ I h) ?_) ht;rintro u s1 ⟨x,H1,I1,rx,a,ex,dx,fs,ea,l,q⟩;subst ex;obtain rfl:u=Value.ref a:=rx;refine zGi I1 ea c hm l ?_;refine PySem.W.callWith_K (first:=[.ref a]) (h₀:=X.base) I.ok.mod.kin hm.kp (thn (ha pos pins s1 Z H1 _ I1 q) fun us s2 ⟨vs,H2,I2,r,q2⟩=>⟨I2.kIn,?_⟩) hst hpl;exact zRT (us:=.ref a :: us) (vs:=.ref a :: vs) F hr hb hd hx I2 (.cons rfl r) q2
theorem zKy {pl:Sem Bool}(he:PE X o ta)(c:Cls X.K C)(hm:Meth X.K C m f)(F:qM X.prog X.w X.K X.mg X.base CX k f fd ps sp)(hr:zDi k X.A)(hb:Binds X.K fd ps ds)(hd:Vals dvs ds)(hx:Passes CX X E)(ht:eval (.Call (.Attribute o m apos) [] [] pos) X.env=(do
     let ov <- eval o X.env
     standAt apos.atName
     let (f,first) <- holding [ov] (getMethod ov m pl)
     callWith pos f first (backTo pos (starEach [] X.env)) (backToKw pos (keywordEach [] X.env))):=by rfl) :
   PE X (.Call (.Attribute o m apos) [] [] pos) (zNd C m sp dvs E ta zP8):=by
 intro pins s Z H Q I h;refine PySem.W.methodCall_KW (pl:=pl) (thn (he pins s Z H _ I h) ?_) ht;rintro u s1 ⟨x,H1,I1,rx,a,ex,dx,fs,ea,l,q⟩;subst ex;obtain rfl:u=Value.ref a:=rx;refine zGi I1 ea c hm l ?_;exact PySem.W.callWith_K0 (first:=[.ref a]) I1.kIn hm.kp (zRT (us:=[.ref a]) (vs:=[.ref a]) F hr hb hd hx I1 (.cons rfl .nil) q)
structure Mk (K:Fg)(C f:Addr):Prop where
 makes:PySem.W.makesIn K C=true
 init:PySem.W.findIn K (.ref C) "__init__" = some (some (.ref f))
 fn:PySem.W.isFn K (.ref f)=true
 kp:PySem.W.keepIn K (.ref C)=true
theorem zOv {pins:Y2}{Z:St}{H:Hp}{s:Shared}{Q:VK}{us:List Value}{vs:List V}(M:Mk X.K C f)(F:qM X.prog X.w X.K X.mg X.base CX k f fd ps sp)(hr:zDi (k+1) X.A)(hb:Binds X.K fd ps ds)(hd:Vals dvs ds)(hx:Passes CX X E)(I:Inv X pins Z H s)(r:Vals vs us)(h:∀ x dx,H x=none->H dx=none->dx≠x->sp (.ref x :: (vs ++ dvs)) (upd (upd H dx (.own x)) x (.ins C dx [])) (fun v H2=>v=.non/\Q (.ref x) H2) E) : wpAny (model X.prog X.w) X.A (call (.ref C) us) (EP X pins Z Q) X.xe s:=by
 have hq:=h (s.heap.objs.size+1) s.heap.objs.size (I.hok.fresh (Nat.le_succ _)) (I.hok.fresh (Nat.le_refl _)) (Nat.ne_of_lt (Nat.lt_succ_self _));have I2:=Inv.made (C:=C) I;have r2:Vals (V.ref (s.heap.objs.size+1) :: (vs ++ dvs)) (Value.ref (s.heap.objs.size+1) :: (us ++ ds)):=.cons rfl (r.append hd);have hl:(Value.ref (s.heap.objs.size+1) :: us ++ ds).length=ps.length:=by have e:=r2.length;rw [F.len _ _ _ _ hq] at e;exact e.symm
 refine wpAny_call (zOt (f:=f) I.kIn M.makes M.init (beq_iff_eq.mp M.fn) (codeAny_mono (F.run _ X.stack _ _ ⟨Value.ref (s.heap.objs.size+1) :: us,[]⟩ (Value.ref (s.heap.objs.size+1) :: (us ++ ds)) _ _ E (hr.make C us [])
   (I2.zW6.make C us []) (hb _ (Value.ref (s.heap.objs.size+1) :: us) I2.kIn hl) r2 hq) fun r s' hq'=>?_))
 cases r with
 | error e=>exact hx pins Z _ _ e s' I2 hq'
 | ok fl =>
   cases fl with
   | ret u =>obtain ⟨v,H',I3,rv,ev,q3⟩:=I2.after hq';subst ev;exact ⟨rv,⟨V.ref (s.heap.objs.size+1),H',I3,rfl,q3⟩⟩
   | next=>exact False.elim hq'
   | brk=>exact False.elim hq'
   | cont=>exact False.elim hq'
theorem zBi (M:Mk X.K C f)(F:qM X.prog X.w X.K X.mg X.base CX k f fd ps sp)(hr:zDi (k+1) X.A)(hg:Gl X x)(hm:X.mg x=some (.ref C))(hb:Binds X.K fd ps ds)(hd:Vals dvs ds)(hx:Passes CX X E)(ha:PA X (e :: es) t)(hdb:(x == ("__debug__" : Str))=false:=by decide)(he:starEach (e :: es) X.env=(false,eval e X.env) :: starEach es X.env:=by rfl)(hpl:(backTo pos (starEach es X.env)).any (·.1)=false:=by rfl) : PE X (.Call (.Name x p) (e :: es) [] pos) (zP9 C sp dvs E t):=by intro pins s Z H Q I h;refine wpAny_Call_Name_kw (zDj I hg hm ?_ hdb);refine PySem.W.callWith_K (h₀:=X.base) I.ok.mod.kin M.kp (thn (ha pos pins s Z H _ I h) fun us s1 ⟨vs,H1,I1,r,q⟩=>⟨I1.kIn,?_⟩) he hpl;exact zOv M F hr hb hd hx I1 r q
theorem zTe (M:Mk X.K C f)(F:qM X.prog X.w X.K X.mg X.base CX k f fd ps sp)(hr:zDi (k+1) X.A)(hg:Gl X x)(hm:X.mg x=some (.ref C))(hb:Binds X.K fd ps ds)(hd:Vals dvs ds)(hx:Passes CX X E)(hdb:(x == ("__debug__" : Str))=false:=by decide):PE X (.Call (.Name x p) [] [] pos) (zP9 C sp dvs E zP8):=by intro pins s Z H Q I h;refine wpAny_Call_Name_kw (zDj I hg hm ?_ hdb);exact PySem.W.callWith_K0 I.kIn M.kp (zOv (us:=[]) M F hr hb hd hx I .nil h)
end
section
variable {X:Cx}{CX:CXT}{k:Nat}{f C:Addr}{fd:FuncData}{ps ks:List Str}{sp:Sp}{E:XK}{x m:Str}{p pos apos kpos:Pos}{e o:Expr}{es:List Expr}{kws:List Keyword}{te ta:TE}{t tk:TA}{nm:Option Str}
variable {g:List Value->List Value->List Value}{gV:List V->List V->List V}
end
structure zL (N P:List Str)(sc:Scope):Prop where
 kind:sc.kind=.function
 co:sc.isCoroutine=false
 gen:sc.isGenerator=false
 nd:N.Nodup
 pre:N.take P.length=P
 par:∀ x∈P,sc.names.lookup x=some .local\/sc.names.lookup x=some .cell
 nofree:∀ y∈sc.names,y.2≠.free
theorem zMU {kindOf:Str->Option NameKind}{x:Str}:∀ {binds:List (Str×Value)}{m:Y3},(∀ v,(x,v)∉binds)->bindL kindOf binds m x=m x
 | [],_,_=>rfl
 | (n,v) :: r,m,h=>by
   unfold bindL;rw [zMU fun w hw=>h w (List.mem_cons_of_mem _ hw)];split
   . have:x≠n:=by rintro rfl;exact h v List.mem_cons_self
     simp [this]
   . rfl
theorem zMV {kindOf:Str->Option NameKind}{x:Str}:∀ {binds:List (Str×Value)}{m:Y3},(∀ v,(x,v)∉binds)->bindC kindOf binds m x=m x
 | [],_,_=>rfl
 | (n,v) :: r,m,h=>by
   unfold bindC;rw [zMV fun w hw=>h w (List.mem_cons_of_mem _ hw)];split
   . rfl
   . have:x≠n:=by rintro rfl;exact h v List.mem_cons_self
     simp [this]
theorem zMW {kindOf:Str->Option NameKind}{x:Str}{v:Value}:∀ {P:List Str}{vs:List Value}{i:Nat}{m:Y3},P.Nodup->P[i]? = some x->vs[i]? = some v->kindOf x=some .local-> bindL kindOf (P.zip vs) m x=some v
 | [],_,_,_,_,h,_,_=>by simp at h
 | _ :: _,[],_,_,_,_,h,_=>by simp at h
 | p :: P,w :: vs,0,m,nd,h1,h2,hk=>by simp at h1 h2;subst h1;subst h2;show bindL kindOf ((p,w) :: P.zip vs) m p=_;unfold bindL;rw [zMU fun v hv=>(List.nodup_cons.mp nd).1 (List.of_mem_zip hv).1,if_pos hk];simp
 | p :: P,w :: vs,i+1,m,nd,h1,h2,hk=>by show bindL kindOf ((p,w) :: P.zip vs) m x=_;unfold bindL;exact zMW (i:=i) (List.nodup_cons.mp nd).2 (by simpa using h1) (by simpa using h2) hk
theorem zMX {kindOf:Str->Option NameKind}{x:Str}{v:Value}:∀ {P:List Str}{vs:List Value}{i:Nat}{m:Y3},P.Nodup->P[i]? = some x->vs[i]? = some v->kindOf x≠some .local-> bindC kindOf (P.zip vs) m x=some v
 | [],_,_,_,_,h,_,_=>by simp at h
 | _ :: _,[],_,_,_,_,h,_=>by simp at h
 | p :: P,w :: vs,0,m,nd,h1,h2,hk=>by simp at h1 h2;subst h1;subst h2;show bindC kindOf ((p,w) :: P.zip vs) m p=_;unfold bindC;rw [zMV fun v hv=>(List.nodup_cons.mp nd).1 (List.of_mem_zip hv).1,if_neg hk];simp
 | p :: P,w :: vs,i+1,m,nd,h1,h2,hk=>by show bindC kindOf ((p,w) :: P.zip vs) m x=_;unfold bindC;exact zMX (i:=i) (List.nodup_cons.mp nd).2 (by simpa using h1) (by simpa using h2) hk
def start (N:List Str)(vs:List V):St:=vs.map some ++ List.replicate (N.length - vs.length) none
def zKF (CX:CXT)(P:Program)(w:World)(K:Fg)(mg:Y3)(base:Heap)(N:List Str)(qual:Str)(scope:Scope)(f:Addr)(cd:Value)(A:Around)(outer:List Env)(s:Shared)(H:Hp)(E:XK):Cx where
 prog:=P
 w:=w
 K:=K
 mg:=mg
 base:=base
 A:=A.deeper (envOfC qual scope s.heap.objs.size f cd)
 N:=N
 s_0:=s
 H_0:=H
 env:=envOfC qual scope s.heap.objs.size f cd
 outer:=outer
 stack:=envOfC qual scope s.heap.objs.size f cd :: outer
 ex:=[]
 calm:=true
 fn:=fun _=>true
 pn:=[]
 xe:=fun e s'=>wpAny (model P w) (A.deeper (envOfC qual scope s.heap.objs.size f cd)) (leaving (envOfC qual scope s.heap.objs.size f cd) e) (fun _ s''=>CX outer H s E e s'') (fun e' s''=>CX outer H s E e' s'') s'
theorem zOw {sc:Scope}{n:Nat}{x:Str}(h:sc.names.lookup x=some .cell):∃ c,(cellsFrom n sc.names []).lookup x=some c:=by have q:=PySem.W.cellsFrom_some sc.names n [] (.inl h);exact Option.isSome_iff_exists.mp q
theorem zMY {CX:CXT}{P:Program}{w:World}{K:Fg}{mg:Y3}{base:Heap}{N ps:List Str}{qual:Str}{scope:Scope}{f:Addr}{cd:Value}{A:Around}{outer:List Env}{s s1:Shared}{H:Hp}{E:XK}{us:List Value}{vs:List V}(S:zL N ps scope)(hd:A.handled=none)(e0:zTd P w K mg base A outer s H)(hl:vs.length=ps.length)(r:Vals vs us)(x:InCallC s s.heap.objs.size (bindL (envOfC qual scope s.heap.objs.size f cd).kindOf (ps.zip us) fun _=>none) (cellsFrom (s.heap.objs.size+1) scope.names []) (bindC (envOfC qual scope s.heap.objs.size f cd).kindOf (ps.zip us) fun _=>none) s1) : Inv (zKF CX P w K mg base N qual scope f cd A outer s H E) [] (start N vs) H s1:=by
 have hpl:ps.length<=N.length:=by have:=congrArg List.length S.pre;rw [List.length_take] at this;omega
 obtain ⟨h1,tk,rfl,hk⟩:=x.done;have noA:∀ b:Addr,b∉(zKF CX P w K mg base N qual scope f cd A outer s H E).ex:=fun b z=>absurd (show b∈([]:List Addr) from z) (by simp);refine ⟨⟨e0.mod,S.kind,rfl,rfl,Nat.le_refl _,fun y z c h1 h2=>?_,fun y hy=>?_,fun y c _ h=>?_,fun _=>hd,Around.frames_deeper e0.frames,.inr ⟨rfl,rfl⟩,fun b z=>absurd z (noA b),e0.bs,e0.bsz,fun b _ _=>noA b,fun b z=>absurd z (noA b),e0.zML,e0.frf⟩,
   rfl,e0.bare,Un.kept hk,⟨_,x.toInCall.ns,fun i y v h1 h2 h3=>?_⟩,fun y c h=>⟨_,x.cell y c h⟩,e0.hok.fresh (Nat.le_refl _),fun y c h=>?_,fun p hp=>absurd (show p∈([]:Y2) from hp) (by simp),e0.hok.kept hk,?_⟩
 . exact name_of_addr x.apart (PySem.mem_of_lookup h1) (PySem.mem_of_lookup h2)
 . have hy:scope.names.lookup y=some .cell\/scope.names.lookup y=some .free:=hy;rcases hy with hy | hy
   . exact zOw hy
   . exact absurd rfl (S.nofree _ (PySem.mem_of_lookup hy))
 . exact Nat.le_of_lt (x.above y c (PySem.mem_of_lookup h))
 . have hi:i < vs.length:=by
     unfold start at h2;by_cases hi:i < vs.length
     . exact hi
     . rw [List.getElem?_append_right (by simpa using hi)] at h2;rw [List.getElem?_replicate] at h2;split at h2 <;> cases h2
   have ha:vs[i]? = some v:=by
     unfold start at h2;rw [List.getElem?_append_left (by simpa using hi),List.getElem?_map] at h2;cases e:vs[i]? with
     | none=>rw [e] at h2;cases h2
     | some a=>rw [e] at h2;cases h2;rfl
   obtain ⟨u,hu,rv⟩:=r.get ha;have hp:ps[i]? = some y:=by rw [<- S.pre,List.getElem?_take_of_lt (by omega)];exact h1
   have ndP:ps.Nodup:=by rw [<- S.pre];exact S.nd.sublist (List.take_sublist _ _)
   refine ⟨u,rv,?_⟩;rcases S.par y (List.mem_of_getElem? hp) with k | k
   . exact .inl ⟨k,zMW ndP hp hu k⟩
   . obtain ⟨c,e⟩:=zOw (n:=s.heap.objs.size+1) k;refine .inr ⟨.inl k,c,e,?_⟩;have q:=x.cell y c e;rw [zMX ndP hp hu (by show scope.names.lookup y≠_;rw [k];decide)] at q;exact q
 . exact e0.hok.fresh (Nat.le_of_lt (x.above y c (PySem.mem_of_lookup h)))
 . unfold start;show _=N.length;rw [List.length_append,List.length_map,List.length_replicate];omega
theorem zW7 {CX:CXT}{P:Program}{w:World}{K:Fg}{mg:Y3}{base:Heap}{k:Nat}{f:Addr}{name qual:Str}{params:Arguments}{body:List Stmt}{scope:Scope}{dV kV doc pm cdv ct oc:Value}{an od:Option Addr}{osl:Array (Option Value)}{N ps:List Str}{sp:Sp}(lk:K.lookup f=some ⟨oc,od,.func (PySem.W.fnOf name qual params body scope dV kV doc pm an cdv ct),osl⟩)(hcd:PySem.W.codeIn K cdv qual=true)(S:zL N ps scope)(len:∀ vs H Q E,sp vs H Q E->vs.length=ps.length)(hbody:∀ (A:Around)(outer:List Env)(s:Shared)(H:Hp)(vs:List V)(Q:VK)(E:XK),zDi k (A.deeper (envOfC qual scope s.heap.objs.size f cdv))->sp vs H Q E->
     ∃ t,PSs (zKF CX P w K mg base N qual scope f cdv A outer s H E) body t/\t { nx:=fun _ H'=>Q .non H',rt:=Q } (start N vs) H) :
   qM P w K mg base CX (k+1) f (PySem.W.fnOf name qual params body scope dV kV doc pm an cdv ct) ps sp:=by
 refine ⟨len,fun A outer s H args us vs Q E hr e0 hb r hsp=>?_⟩;have hl:=len _ _ _ _ hsp;have KX:K.In s.heap:=e0.mod.kin.keeps fun b o e=>(e0.bs b o e).1;have lim:s.heap.NoLimit:=e0.mod.nolimit.keeps fun b o e=>(e0.bs b o e).1;have hkind:∀ y∈ps.zip us,scope.names.lookup y.1=some .local\/(scope.names.lookup y.1=some .cell/\((cellsFrom (s.heap.objs.size+1) scope.names []).lookup y.1).isSome=true):=fun ⟨n,v⟩ hy=>by
   rcases S.par n (List.of_mem_zip hy).1 with q | q
   . exact .inl q
   . exact .inr ⟨q,PySem.W.cellsFrom_some _ _ _ (.inl q)⟩
 refine codeAny_call_function hr.depth (KX _ _ lk) rfl S.co S.gen rfl (PySem.W.codeRec_of KX hcd) (hb _ _ _ _ ?_);refine wpAny_newFunctionEnv_cells S.kind hkind fun env he s1 x=>?_;subst he;refine ⟨lim.keeps x.toInCall.keep,codeAny_func ?_⟩;obtain ⟨t,ht,hq⟩:=hbody A outer s H vs Q E (hr.deeper _) hsp;have I:Inv (zKF CX P w K mg base N qual scope f cdv A outer s H E) [] (start N vs) H s1:=zMY S hr.hd e0 hl r x;refine wpAny_mono (ht [] s1 (start N vs) H _ I hq) (fun fl s' hs=>?_) fun e s' hs=>hs;have fin:∀ {Z' : St}{H' : Hp}{v:V}{u:Value},Inv (zKF CX P w K mg base N qual scope f cdv A outer s H E) [] Z' H' s'->RelV v u->Q v H'->CE outer P w H s Q u s' :=
   fun {Z' H' v u} J rv q=>⟨v,H',J.os,J.bare,J.base,J.hok,rv,q⟩
 cases fl with
 | ret u =>obtain ⟨v,Z',H',J,rv,q⟩:=hs;exact fin J rv q
 | next =>obtain ⟨Z',H',J,q⟩:=hs;exact fin (v:=V.non) (u:=Value.none) J rfl q
 | brk =>obtain ⟨_,_,_,q⟩:=hs;exact False.elim q
 | cont =>obtain ⟨_,_,_,q⟩:=hs;exact False.elim q
section
variable {X:Cx}{x:Str}{p pos:Pos}{e:Expr}{es:List Expr}{t:TA}{id T:String}{r:List V->Hp->VK->Prop}
def tCB (r:List V->Hp->VK->Prop)(t:TA):TE:=fun Z H Q=>t Z H fun vs H1=>r vs H1 Q
theorem zd (hc:zH1 X (.builtin id) r)(hg:Gl X x)(hm:X.mg x=none)(hv:bootBuiltins x=some (.builtin id))(ha:PA X (e :: es) t)(hn:x≠"__name__":=by decide)(hdb:(x == ("__debug__" : Str))=false:=by decide)(he:starEach (e :: es) X.env=(false,eval e X.env) :: starEach es X.env:=by rfl)(hpl:(backTo pos (starEach es X.env)).any (·.1)=false:=by rfl):PE X (.Call (.Name x p) (e :: es) [] pos) (tCB r t):=by intro pins s Z H Q I h;refine wpAny_Call_Name_kw (zHz I hg hm hv ?_ hn hdb);exact PyProof.Rows.callWith_builtin1 (thn (ha pos pins s Z H _ I h) fun us s1 ⟨vs,H1,I1,r1,q1⟩=>hc pins s1 Z H1 vs us Q I1 r1 q1) he hpl
theorem zDm (hc:zH1 X (.type T) r)(hg:Gl X x)(hm:X.mg x=none)(hv:bootBuiltins x=some (.type T))(ha:PA X (e :: es) t)(hn:x≠"__name__":=by decide)(hdb:(x == ("__debug__" : Str))=false:=by decide)(he:starEach (e :: es) X.env=(false,eval e X.env) :: starEach es X.env:=by rfl)(hpl:(backTo pos (starEach es X.env)).any (·.1)=false:=by rfl):PE X (.Call (.Name x p) (e :: es) [] pos) (tCB r t):=by intro pins s Z H Q I h;refine wpAny_Call_Name_kw (zHz I hg hm hv ?_ hn hdb);exact PyProof.Rows.callWith_type1 (thn (ha pos pins s Z H _ I h) fun us s1 ⟨vs,H1,I1,r1,q1⟩=>hc pins s1 Z H1 vs us Q I1 r1 q1) he hpl
end
end L2
namespace HT
open PySem PyProof.Rows
section
open PySem.SeqAt
open PySem.AutoSeq1 (wpAny_loadPart')
open PySem.MeetsSeq PySem.MeetsSeq2 PySem.MeetsSeq3
end
section
variable {prog:Program}{w:World}{A:Around}{E:Y1}{s:Shared}
theorem zVc {t b:Addr}{vs ws:List Value}{Q:Y1}(ht:IsTup s.heap t vs.toArray)(hb:IsTup s.heap b ws.toArray)(hv:vs≠[])(h1:ws=[]->Q (.ref t) s)(h2:ws≠[]->Q (.ref s.heap.objs.size) { s with heap:=s.heap.push { cls:=.type "tuple",data:=.seq (vs ++ ws).toArray } })(hsz:vs.length+ws.length<=sizeLine):wpAny (model prog w) A (binaryOp .Add (.ref t) (.ref b)) Q E s:=by
 obtain ⟨⟨cls,dd,data,sl⟩,ho,hc,n,hd⟩:=id ht;obtain ⟨⟨cls2,dd2,data2,sl2⟩,ho2,hc2,n2,hd2⟩:=id hb;simp only at hc hd hc2 hd2;subst hc hd hc2 hd2;have e:vs.toArray ++ ws.toArray=(vs ++ ws).toArray:=(by simp);by_cases hw:ws=[]
 . exact concat_meets ⟨_,ho,rfl⟩ ⟨_,ho2,rfl⟩ noFill_tuple_add seq_tuple_add PySem.F.slot_tuple_add PySem.F.entry_tuple_add (PySem.F.args_tuple_add_2 _ _)
     (tuple_addW1 t b vs.toArray ws.toArray n n2 dd dd2 sl sl2 (by simpa using hv) (by simp [hw])) ⟨ho,ho2,h1 hw⟩
 . refine concat_meets ⟨_,ho,rfl⟩ ⟨_,ho2,rfl⟩ noFill_tuple_add seq_tuple_add PySem.F.slot_tuple_add PySem.F.entry_tuple_add (PySem.F.args_tuple_add_2 _ _)
     (tuple_addW2 t b vs.toArray ws.toArray n n2 dd dd2 sl sl2 (by simpa using hv) (by simpa using hw) (by rw [List.size_toArray,List.size_toArray];exact hsz)) ⟨ho,ho2,?_⟩
   rw [e];exact h2 hw
def sIx (n d:Nat):Option Int->Nat
 | none=>d
 | some v=>if v < 0 then (v+(n:Int)).toNat else min v.toNat n
theorem zKz (n d k:Nat):sIx n d (some (k:Int))=min k n:=by show (if (k:Int) < 0 then ((k:Int)+(n:Int)).toNat else min (k:Int).toNat n)=min k n;rw [if_neg (by omega),Int.toNat_natCast]
theorem zW8 (n d:Nat)(hd:d<=n)(o:Option Int):sIx n d o<=n:=by
 cases o with
 | none=>exact hd
 | some v =>
   show (if v < 0 then (v+(n:Int)).toNat else min v.toNat n)<=n;by_cases hv:v < 0
   . rw [if_pos hv];omega
   . rw [if_neg hv];exact Nat.min_le_right _ _
theorem zRU (v:Int)(n d:Nat):(if v < 0 then max (v+(n:Int)) 0 else min v (n:Int))=((sIx n d (some v):Nat):Int):=by
 show (if v < 0 then max (v+(n:Int)) 0 else min v (n:Int))=(((if v < 0 then (v+(n:Int)).toNat else min v.toNat n):Nat):Int);by_cases hv:v < 0
 . simp only [if_pos hv];omega
 . simp only [if_neg hv];omega
theorem zQA (lo hi:Option Int)(n:Nat):Builtin.Slice.sliceAdjust lo hi 1 (n:Int)=(((sIx n 0 lo:Nat):Int),((sIx n n hi:Nat):Int)):=by
 have h1:¬ ((1:Int) < 0):=(by omega);unfold Builtin.Slice.sliceAdjust;simp only [h1,if_false];refine Prod.ext ?_ ?_
 . cases lo with
   | none=>rfl
   | some v=>exact zRU v n 0
 . cases hi with
   | none=>rfl
   | some v=>exact zRU v n n
theorem zQB (i j:Nat):Builtin.Slice.slicePlaces (i:Int) (j:Int) 1=j - i:=by
 unfold Builtin.Slice.slicePlaces;have h1:(1:Int) > 0:=by omega
 simp only [h1,if_true,Int.ediv_one];split <;> omega
theorem zKG {v:Value}{o:Option Int}{Q:Option Int->Shared->Prop}(p:IsPart v o)(h:Q o s):wpAny (model prog w) A (Builtin.Slice.slicePartIndex v) Q E s:=by
 cases p with
 | none=>exact slicePart_none h
 | int i t=>exact slicePart_int h
theorem zHV {sl:Addr}{vl vu:Value}{lo hi:Option Int}{n:Nat}{Q:Int×Int×Nat->Shared->Prop}(hs:s.heap.IsSliceOf sl vl vu .none)(pl:IsPart vl lo)(pu:IsPart vu hi)(h:Q (((sIx n 0 lo:Nat):Int),1,sIx n n hi - sIx n 0 lo) s):wpAny (model prog w) A (Builtin.Slice.sliceApplied (.ref sl) (pure (n:Int))) Q E s:=by obtain ⟨os,hos,hcs,hds⟩:=id hs;unfold Builtin.Slice.sliceApplied Builtin.Slice.sliceFields;refine wpAny_bind (wpAny_bind (wpAny_field hos hds (x:=vl) rfl (wpAny_bind (wpAny_field hos hds (x:=vu) rfl (wpAny_bind (wpAny_field hos hds (x:=.none) rfl (wpAny_pure ?_)))))));refine wpAny_bind (slicePart_none ?_);show wpAny _ _ (if ((1:Int) == 0)=true then _ else _) _ _ s;rw [if_neg (by decide)];refine wpAny_bind (zKG pl (wpAny_bind (zKG pu (wpAny_bind (wpAny_pure ?_)))));show wpAny _ _ (match Builtin.Slice.sliceAdjust lo hi 1 (n:Int) with | (lo,hi)=>pure (lo,(1:Int),Builtin.Slice.slicePlaces lo hi 1)) _ _ s;rw [zQA lo hi n];show wpAny _ _ (pure (((sIx n 0 lo:Nat):Int),(1:Int),Builtin.Slice.slicePlaces ((sIx n 0 lo:Nat):Int) ((sIx n n hi:Nat):Int) 1)) _ _ s;rw [zQB];exact wpAny_pure h
theorem zTf (xs:Array Value)(i k:Nat):((List.range k).filterMap fun (m:Nat)=>xs[((i:Int)+(m:Int) * 1).toNat]?).toArray=((xs.toList.drop i).take k).toArray:=by
 have e:(fun (m:Nat)=>xs[((i:Int)+(m:Int) * 1).toNat]?)=fun m=>xs[i+m]?:=by
   funext m;have:((i:Int)+(m:Int) * 1).toNat=i+m:=by omega
   rw [this]
 rw [e];have:=pick_run xs i k;rw [List.filterMap_map] at this;have e2:((fun x=>xs[x]?)∘fun x=>i+x)=fun m=>xs[i+m]?:=rfl;rw [e2] at this;rw [this]
theorem zGk {t sl:Addr}{items:Array Value}{vl vu:Value}{lo hi:Option Int}{Q:Y1}(ht:IsTup s.heap t items)(hs:s.heap.IsSliceOf sl vl vu .none)(pl:IsPart vl lo)(pu:IsPart vu hi)(hw:¬ (sIx items.size 0 lo=0/\sIx items.size items.size hi=items.size))(h:Q (.ref s.heap.objs.size) { s with heap:=s.heap.push { cls:=.type "tuple",data:=.seq ((items.toList.drop (sIx items.size 0 lo)).take (sIx items.size items.size hi - sIx items.size 0 lo)).toArray } })(hsz:items.size<=sizeLine):wpAny (model prog w) A (getItem (.ref t) (.ref sl)) Q E s:=by
 have htake:sizeOk (.seq ((items.toList.drop (sIx items.size 0 lo)).take (sIx items.size items.size hi - sIx items.size 0 lo)).toArray):=by show ((items.toList.drop (sIx items.size 0 lo)).take (sIx items.size items.size hi - sIx items.size 0 lo)).toArray.size<=sizeLine;rw [List.size_toArray,List.length_take,List.length_drop,Array.length_toList];omega
 have hj:sIx items.size items.size hi<=items.size:=zW8 _ _ (Nat.le_refl _) hi;obtain ⟨os,hos,hcs,hds⟩:=id hs;have hTs:s.TypeIs (.ref sl) "slice":=⟨os,hos,hcs⟩;unfold getItem
 try with_reducible refine wpAny_holding ?_
 first | refine wpAny_bind (wpAny_pure ?_) | skip
 refine wpAny_bind (wpAny_sequenceKey ht.typeIs (by decide) ?_);refine wpAny_bind (wpAny_callSpecial?_slot (name:=Str.ofString "__getitem__") ht.typeIs PyProof.Rows.slot_tuple_getitem
   (wpAny_call_entry PyProof.Rows.slot_tuple_getitem ht.typeIs entry_tuple_getitem ?_ (args_tuple_getitem _ _)))
 show wpAny _ _ (Builtin.Tuple.tupleItemsOf (.ref t) >>= _) _ _ s;refine wpAny_bind (tupleItemsOf_ ht ?_);refine wpAny_bind (wpAny_typeOf hTs ?_);rw [if_pos (by decide)];refine wpAny_bind (zHV hs pl pu ?_);have hno:¬ ((((sIx items.size 0 lo:Nat):Int) == 0 && (1:Int) == 1 && (sIx items.size items.size hi - sIx items.size 0 lo) == items.size)=true):=by intro q;rw [Bool.and_eq_true,Bool.and_eq_true] at q;have q1:((sIx items.size 0 lo:Nat):Int)=0:=eq_of_beq q.1.1;have q2:sIx items.size items.size hi - sIx items.size 0 lo=items.size:=eq_of_beq q.2;exact hw ⟨by omega,by omega⟩
 show wpAny _ _ (if (((sIx items.size 0 lo:Nat):Int) == 0 && (1:Int) == 1 && (sIx items.size items.size hi - sIx items.size 0 lo) == items.size)=true then _ else _) _ _ s;rw [if_neg hno,zTf]
 first
   | exact wpAny_bind (m:=Builtin.Tuple.tupleExact _) (wpAny_newObj_type (wpAny_pure ⟨_,rfl,wpAny_pure h⟩) htake)
   | exact wpAny_bind (m:=Builtin.Tuple.tupleExact _) (wpAny_newObj_type (wpAny_bind (wpAny_pure (wpAny_pure ⟨_,rfl,wpAny_pure h⟩))) htake)
   | exact wpAny_bind (wpAny_bind (m:=Builtin.Tuple.tupleExact _) (wpAny_newObj_type (wpAny_pure (wpAny_pure ⟨_,rfl,wpAny_pure h⟩)) htake))
   | exact wpAny_bind (wpAny_bind (m:=Builtin.Tuple.tupleExact _) (wpAny_newObj_type (wpAny_pure ⟨_,rfl,wpAny_pure h⟩) htake))
end
end HT
namespace L2
open PySem PySem.Spec PyProof.Rows
abbrev TO:=St->Hp->(Option Int->Hp->Prop)->Prop
def PO (X:Cx)(e:Option Expr)(t:TO):Prop :=
 ∀ (pins:Y2)(s:Shared)(Z:St)(H:Hp)(Q:Option Int->Hp->Prop),Inv X pins Z H s->t Z H Q->
   wpAny (model X.prog X.w) X.A (evalPart e X.env) (fun u s'=>∃ o H',Inv X pins Z H' s'/\IsPart u o/\Q o H') X.xe s
def zK0:TO:=fun _ H Q=>Q none H
def zQC (t:TE):TO:=fun Z H Q=>t Z H fun x H1=>∃ i,x=.int i/\Q (some i) H1
section
variable {X:Cx}{e:Expr}{te:TE}{lo hi:Option Expr}{tl th:TO}{pos p2:Pos}
theorem zNe:PO X none zK0:=by intro pins s Z H Q I h;rw [evalPart_none];exact wpAny_pure ⟨none,H,I,.none,h⟩
theorem zAi (h:PE X e te):PO X (some e) (zQC te):=by intro pins s Z H Q I hw;rw [evalPart_some];refine thn (h pins s Z H _ I hw) ?_;rintro u s1 ⟨x,H1,I1,r1,q1⟩;obtain ⟨i,rfl,q⟩:=q1;obtain ⟨t,rfl⟩:=r1;exact ⟨some i,H1,I1,.int i t,q⟩
def SlR (X:Cx)(r:V->Option Int->Option Int->Hp->VK->Prop):Prop :=
 ∀ (pins:Y2)(s:Shared)(Z:St)(H:Hp)(x:V)(v vl vu:Value)(lo hi:Option Int)(sl:Addr)(Q:VK),Inv X pins Z H s->RelV x v->s.heap.IsSliceOf sl vl vu .none->IsPart vl lo->IsPart vu hi->r x lo hi H Q->
   ∃ T id,typeLookup (.type T) "__getitem__" = pure (some (.builtin id))/\s.TypeIs v T/\wpAny (model X.prog X.w) X.A (getItem v (.ref sl)) (EP X pins Z Q) X.xe s
def tSl (r:V->Option Int->Option Int->Hp->VK->Prop)(te:TE)(tl th:TO):TE:=fun Z H Q=>te Z H fun x H1=>tl Z H1 fun l H2=>th Z H2 fun u H3=>r x l u H3 Q
theorem zCb {r:V->Option Int->Option Int->Hp->VK->Prop}(hr:SlR X r)(he:PE X e te)(hl:PO X lo tl)(hu:PO X hi th):PE X (.Subscript e (.Slice lo hi none p2) pos) (tSl r te tl th):=by intro pins s Z H Q I h;refine Subscript_ (thn (he pins s Z H _ I h) ?_);rintro v s1 ⟨x,H1,I1,r1,q1⟩;refine wpAny_Slice (thn (hl pins s1 Z H1 _ I1 q1) fun vl s2 ⟨l,H2,I2,pl,q2⟩=>thn (hu pins s2 Z H2 _ I2 q2) fun vu s3 ⟨u,H3,I3,pu,q3⟩=>?_);rw [evalPart_none];refine wpAny_pure ?_;have I4:Inv X pins Z H3 { s3 with heap:=s3.heap.push { cls:=.type "slice",data:=.fields #[vl,vu,.none] } }:=I3.kept (t':=s3.toks) fun b ob q=>Heap.get?_push_of_some _ q;obtain ⟨T,id,hT,ht,hg⟩:=hr pins { s3 with heap:=s3.heap.push { cls:=.type "slice",data:=.fields #[vl,vu,.none] } } Z H3 x v vl vu l u s3.heap.objs.size Q I4 r1 (Heap.IsSliceOf.new ..) pl pu q3;show wpAny (model X.prog X.w) X.A (subscriptTail e (.Slice lo hi none p2) v (.ref s3.heap.objs.size)) (EP X pins Z Q) X.xe { s3 with heap:=s3.heap.push { cls:=.type "slice",data:=.fields #[vl,vu,.none] } };exact tail_any (ops:=[.ref s3.heap.objs.size,v]) ht hT hg (by with_unfolding_all rfl)
def zJU (xs:List V)(lo hi:Option Int):List V:=(xs.drop (HT.sIx xs.length 0 lo)).take (HT.sIx xs.length xs.length hi - HT.sIx xs.length 0 lo)
theorem zH7 (xs:List V)(lo hi:Option Int):(zJU xs lo hi).length<=xs.length:=by unfold zJU;rw [List.length_take,List.length_drop];omega
def zY3 (K:Fg):V->Option Int->Option Int->Hp->VK->Prop:=fun x lo hi H Q=>∃ a xs,x=.ref a/\SqT K H a xs/\
 ¬ (HT.sIx xs.length 0 lo=0/\HT.sIx xs.length xs.length hi=xs.length)/\∀ p,H p=none->Q (.ref p) (upd H p (.tup (zJU xs lo hi)))
theorem zUl:SlR X (zY3 X.K):=by
 intro pins s Z H x v vl vu lo hi sl Q I rx hs pl pu h;obtain ⟨a,xs,rfl,hx,hw,q⟩:=h;cases rx;obtain ⟨its,r,ht,hz⟩:=I.tuple hx;have hlen:its.toArray.size=xs.length:=by rw [List.size_toArray];exact r.length.symm
 refine ⟨"tuple",_,PyProof.Rows.slot_tuple_getitem.lookup,ht.typeIs,?_⟩;refine HT.zGk ht hs pl pu (by rw [hlen];exact hw) ?_ (by rw [hlen];exact hz);rw [hlen];refine ⟨.ref s.heap.objs.size,_,I.laid (t':=s.toks) (o:=.tup (zJU xs lo hi)) (fun b ob q=>Heap.get?_push_of_some _ q) (Nat.le_refl _) ?_,rfl,q _ (I.hok.fresh (Nat.le_refl _))⟩;exact ⟨Nat.le_trans (zH7 xs lo hi) hz,_,(r.drop (HT.sIx xs.length 0 lo)).take (HT.sIx xs.length xs.length hi - HT.sIx xs.length 0 lo),IsTup.new _ _⟩
def zW9 (K:Fg):R2:=fun x y H Q=>∃ a b xs ys,x=.ref a/\y=.ref b/\SqT K H a xs/\SqT K H b ys/\xs≠[]/\xs.length+ys.length<=sizeLine/\
 (ys=[]->Q (.ref a) H)/\(ys≠[]->∀ p,H p=none->Q (.ref p) (upd H p (.tup (xs ++ ys))))
theorem Vals.zNf {xs:List V}{us:List Value}(r:Vals xs us):us=[]↔xs=[]:=by
 cases r with
 | nil=>simp
 | cons _ _=>simp
theorem zRV:OpR X (binaryOp .Add) (zW9 X.K):=by intro pins s Z H x y v u Q I rx ry h;obtain ⟨a,b,xs,ys,rfl,rfl,ha,hb,hx,hz,q1,q2⟩:=h;cases rx;cases ry;obtain ⟨its,r1,p1,_⟩:=I.tuple ha;obtain ⟨its2,r2,p2,_⟩:=I.tuple hb;refine HT.zVc p1 p2 (fun z=>hx (r1.zNf.mp z)) (fun z=>⟨.ref a,H,I,rfl,q1 (r2.zNf.mp z)⟩) (fun z=>?_) (by rw [<- r1.length,<- r2.length];exact hz);refine ⟨.ref s.heap.objs.size,_,I.laid (t':=s.toks) (o:=.tup (xs ++ ys)) (fun b ob q=>Heap.get?_push_of_some _ q) (Nat.le_refl _) ?_,rfl,q2 (fun w=>z (r2.zNf.mpr w)) _ (I.hok.fresh (Nat.le_refl _))⟩;exact ⟨by rw [List.length_append];exact hz,_,r1.append r2,IsTup.new _ _⟩
end
def ixN (n:Nat)(i:Int):Option Nat:=if 0<=i then (if i < n then some i.toNat else none) else if -(n:Int)<=i then some (i+n).toNat else none
def atI {α:Type}(xs:List α)(i:Int):Option α:=(ixN xs.length i).bind fun j=>xs[j]?
theorem zRW {n:Nat}{i:Int}{j:Nat}(h:ixN n i=some j):seqIndex? i n=some j/\j < n/\-(n:Int)<=i/\i < n:=by
 unfold ixN at h;by_cases h0:0<=i
 . rw [if_pos h0] at h;by_cases h1:i < n
   . rw [if_pos h1] at h;have e:i.toNat=j:=Option.some.inj h;exact ⟨by rw [seqIndex_of h0 h1,e],by omega,by omega,h1⟩
   . rw [if_neg h1] at h;cases h
 . rw [if_neg h0] at h;by_cases h1 : -(n:Int)<=i
   . rw [if_pos h1] at h;have e:(i+n).toNat=j:=Option.some.inj h;exact ⟨by rw [seqIndex_neg (by omega) h1,e],by omega,h1,by omega⟩
   . rw [if_neg h1] at h;cases h
theorem zNg {α:Type}{xs:List α}{i:Int}{v:α}(h:atI xs i=some v):∃ j,seqIndex? i xs.length=some j/\xs[j]? = some v/\j < xs.length/\-(xs.length:Int)<=i/\i < xs.length:=by
 unfold atI at h;cases e:ixN xs.length i with
 | none=>rw [e] at h;cases h
 | some j =>rw [e] at h;obtain ⟨h1,h2,h3,h4⟩:=zRW e;exact ⟨j,h1,h,h2,h3,h4⟩
theorem Zw {α:Type}{xs:List α}{j:Nat}{v:α}(h:xs[j]? = some v):atI xs (j:Int)=some v:=by
 have hj:j < xs.length:=(List.getElem?_eq_some_iff.mp h).1;have e:ixN xs.length (j:Int)=some j:=by unfold ixN;rw [if_pos (by omega),if_pos (by omega)];simp
 unfold atI;rw [e];exact h
theorem zK1 {α:Type}(xs:List α)(v:α):atI (xs ++ [v]) (-1)=some v:=by
 have hl:(xs ++ [v]).length=xs.length+1:=(by simp);have e:ixN (xs ++ [v]).length (-1)=some xs.length:=by unfold ixN;rw [hl,if_neg (by decide),if_pos (by omega)];congr 1;omega
 unfold atI;rw [e];show (xs ++ [v])[xs.length]? = some v;simp
def zNh (b:Expr):Prop:=∀ o i,subscripted b false o i=operate [o,i] (getItem o i)
def IxR (X:Cx)(r:R2):Prop :=
 ∀ (value slice:Expr)(pins:Y2)(s:Shared)(Z:St)(H:Hp)(x y:V)(v u:Value)(Q:VK),Inv X pins Z H s->RelV x v->RelV y u->r x y H Q->
   subscripted slice false v u=operate [v,u] (getItem v u)->wpAny (model X.prog X.w) X.A (subscriptTail value slice v u) (EP X pins Z Q) X.xe s
def MtR (X:Cx)(id:String)(r:V->List V->Hp->VK->Prop):Prop :=
 ∀ (pins:Y2)(s:Shared)(Z:St)(H:Hp)(x:V)(xs:List V)(v:Value)(us:List Value)(Q:VK),Inv X pins Z H s->RelV x v->Vals xs us->r x xs H Q->
   wpAny (model X.prog X.w) X.A (call (.builtin id) (v :: us)) (EP X pins Z Q) X.xe s
section
variable {X:Cx}{a b:Expr}{ta tb:TE}{pos:Pos}
theorem IxR.or {r r' : R2}(h:IxR X r)(h' : IxR X r'):IxR X (fun x y H Q=>r x y H Q\/r' x y H Q):=by
 intro value slice pins s Z H x y v u Q I rx ry q hs;rcases q with q | q
 . exact h value slice pins s Z H x y v u Q I rx ry q hs
 . exact h' value slice pins s Z H x y v u Q I rx ry q hs
theorem zQD {r:R2}(hr:IxR X r)(ha:PE X a ta)(hb:PE X b tb)(hs:zNh b):PE X (.Subscript a b pos) (tOp r ta tb):=by intro pins s Z H Q I h;exact Subscript_ (zYS ha hb I h fun v u s2 x y H2 I2 rx ry q=>hr a b pins s2 Z H2 x y v u Q I2 rx ry q (hs _ _))
def zUm (K:Fg):R2:=fun x y H Q=>∃ p xs i v,x=.ref p/\y=.int i/\SqL K H p xs/\atI xs i=some v/\Q v H
def zWk (K:Fg):R2:=fun x y H Q=>∃ p xs i v,x=.ref p/\y=.int i/\SqT K H p xs/\atI xs i=some v/\Q v H
def zY4:R2:=fun x y H Q=>∃ z i c,x=.str z/\y=.int i/\z.length<=sizeLine/\atI z.cps.toList i=some c/\Q (.str ⟨#[c]⟩) H
theorem zRX:IxR X (zUm X.K):=by
 intro value slice pins s Z H x y v u Q I rx ry h hs;obtain ⟨p,xs,i,z,rfl,rfl,hq,he,q⟩:=h;cases rx;obtain ⟨t,rfl⟩:=ry;obtain ⟨its,r,pl,hz⟩:=I.list hq;obtain ⟨j,h1,h2,h3,h4,h5⟩:=zNg he;obtain ⟨w,ew,rw'⟩:=r.get h2;have hl:=r.length;have hn:=zKA;have fin:EP X pins Z Q w s:=⟨z,H,I,rw',q⟩;by_cases h0:0<=i
 . have hj:i.toNat=j:=by
     rw [seqIndex_of h0 h5] at h1;exact Option.some.inj h1
   exact item_listR pl.isList h0 (by omega) (by rw [hj];simpa using ew) fin hs
 . have hj:(i+(its.toArray.size:Int)).toNat=j:=by
     rw [seqIndex_neg (by omega) h4] at h1;rw [List.size_toArray,<- hl];exact Option.some.inj h1
   exact subscriptTail_builtinR (x:=w) pl.isList.typeIs slot_list_getitem.lookup
     (wpAny_getItem_list_neg (Q:=fun r s'=>r=w/\EP X pins Z Q r s') pl.isList (by omega) (by rw [List.size_toArray] <;> omega) (by omega) (by rw [hj];simpa using ew) ⟨rfl,fin⟩) hs
theorem zUn:IxR X (zWk X.K):=by
 intro value slice pins s Z H x y v u Q I rx ry h hs;obtain ⟨p,xs,i,z,rfl,rfl,hq,he,q⟩:=h;cases rx;obtain ⟨t,rfl⟩:=ry;obtain ⟨its,r,pl,hz⟩:=I.tuple hq;obtain ⟨j,h1,h2,h3,h4,h5⟩:=zNg he;obtain ⟨w,ew,rw'⟩:=r.get h2;have hl:=r.length;have hn:=zKA;have fin:EP X pins Z Q w s:=⟨z,H,I,rw',q⟩;exact subscriptTail_builtinR (x:=w) pl.typeIs slot_tuple_getitem.lookup
   (getItem_tuple (j:=j) (Q:=fun r s'=>r=w/\EP X pins Z Q r s') pl (by omega) (by omega) (by rw [List.size_toArray,<- hl];exact h1) (by simpa using ew) ⟨rfl,fin⟩) hs
theorem zXA:IxR X zY4:=by
 intro value slice pins s Z H x y v u Q I rx ry h hs;obtain ⟨z,i,c,rfl,rfl,hz,he,q⟩:=h;obtain ⟨t,rfl⟩:=rx;obtain ⟨t',rfl⟩:=ry;obtain ⟨j,h1,h2,h3,h4,h5⟩:=zNg he;have hl:z.cps.toList.length=z.length:=by simp [Str.length]
 rw [hl] at h1 h4 h5;have hn:=zKA;exact tail_any (typeIs_str s z t) slot_str_getitem.lookup (getItem_str (c:=c) (by have e1:decide (i < -(2 ^ 63:Int))=false:=decide_eq_false (by omega);have e2:decide (i≥2 ^ 63)=false:=decide_eq_false (by omega);rw [e1,e2,Bool.or_false]) (by rw [h1];simpa using h2) ⟨.str ⟨#[c]⟩,H,I.tok _,⟨_,rfl⟩,q⟩) hs
def rIx (K:Fg):R2:=fun x y H Q=>zUm K x y H Q\/zWk K x y H Q\/zY4 x y H Q
theorem zOx:IxR X (rIx X.K):=zRX.or (zUn.or zXA)
theorem zQE (its:List Value)(n j:Nat)(u:Value):Obj.mapSeq (·.setIfInBounds j u) { cls:=.type "list",data:=.seq its.toArray n } = { cls:=.type "list",data:=.seq (its.set j u).toArray n }:=by simp [Obj.mapSeq]
theorem Inv.lst {pins:Y2}{Z:St}{H:Hp}{s:Shared}{p:Addr}{xs:List V}(I:Inv X pins Z H s)(h:H p=some (.lst xs)) : ∃ (its:List Value)(n:Nat),Vals xs its/\s.heap.get? p=some { cls:=.type "list",data:=.seq its.toArray n }/\xs.length<=sizeLine:=by obtain ⟨z,its,n,r,e⟩:=I.hok p _ h;exact ⟨its,n,r,e,z⟩
theorem Inv.zXB {pins:Y2}{Z:St}{H:Hp}{s:Shared}{p:Addr}{xs ys:List V}{its its' : List Value}{n n' : Nat}{f:Obj->Obj}(I:Inv X pins Z H s)(h:H p=some (.lst xs))(ho:s.heap.get? p=some { cls:=.type "list",data:=.seq its.toArray n })(hf:f { cls:=.type "list",data:=.seq its.toArray n } = { cls:=.type "list",data:=.seq its'.toArray n' })(r:Vals ys its')(hz:ys.length<=sizeLine)(t:Nat) : Inv X pins Z (upd H p (.lst ys)) { s with heap:=s.heap.update p f,toks:=t }:=by
 have e:(s.heap.update p f).get? p=some { cls:=.type "list",data:=.seq its'.toArray n' }:=by rw [Heap.get?_update_self f ho (by rw [hf] <;> rfl),hf]
 refine I.write (x:=p) (e:=p) (by rw [h];trivial) (.inl rfl) (fun b u hb q=>(Heap.get?_update_other _ _ (Ne.symm hb)).trans q) ⟨_,e⟩ ?_;exact ⟨hz,its',n',r,e⟩
def zXC:V->V->V->Hp->(Hp->Prop)->Prop:=fun o i v H Q=>∃ p xs k j,o=.ref p/\i=.int k/\H p=some (.lst xs)/\ixN xs.length k=some j/\Q (upd H p (.lst (xs.set j v)))
theorem set_list:zYz X zXC:=by
 intro pins s Z H o i v ov iv u Q I ro ri rv h;obtain ⟨p,xs,k,j,rfl,rfl,hp,hj,q⟩:=h;cases ro;obtain ⟨t,rfl⟩:=ri;obtain ⟨its,n,r,ho,hz⟩:=I.lst hp;obtain ⟨h1,h2,h3,h4⟩:=zRW hj;have hl:=r.length;have hn:=zKA;have I' : Inv X pins Z (upd H p (.lst (xs.set j v))) { s with heap:=s.heap.update p (Obj.mapSeq (·.setIfInBounds j u)) } :=
   I.zXB hp ho (zQE its n j u) (r.set rv j) (by rw [List.length_set];exact hz) s.toks
 by_cases h0:0<=k
 . have hk:k.toNat=j:=by
     rw [seqIndex_of h0 h4] at h1;exact Option.some.inj h1
   exact PySem.W.ki_setAt ho h0 (by omega) (by rw [List.size_toArray,<- hl];exact h4) (by rw [hk];exact ⟨_,I',q⟩)
 . have hk:(k+(its.toArray.size:Int)).toNat=j:=by
     rw [seqIndex_neg (by omega) h3] at h1;rw [List.size_toArray,<- hl];exact Option.some.inj h1
   exact PySem.W.ki_setBack ho (by omega) (by rw [List.size_toArray,<- hl];exact h3) (by omega) (by rw [hk];exact ⟨_,I',q⟩)
theorem zMZ (lo hi:Option Int)(n:Nat):(sliceBounds lo hi none n).1=((HT.sIx n 0 lo:Nat):Int)/\(sliceBounds lo hi none n).2.1=((HT.sIx n n hi:Nat):Int)/\(sliceBounds lo hi none n).2.2=1:=by
 refine ⟨?_,?_,rfl⟩
 . cases lo with
   | none=>simp [sliceBounds,HT.sIx]
   | some i =>
     simp only [sliceBounds,HT.sIx,Option.getD_none,show (1:Int) > 0 by decide,if_true];by_cases h:i < 0
     . simp only [h,if_true] <;> omega
     . simp only [h,if_false] <;> omega
 . cases hi with
   | none=>simp [sliceBounds,HT.sIx]
   | some i =>
     simp only [sliceBounds,HT.sIx,Option.getD_none,show (1:Int) > 0 by decide,if_true];by_cases h:i < 0
     . simp only [h,if_true] <;> omega
     . simp only [h,if_false] <;> omega
theorem zK2 (its:List Value)(lo hi:Option Int):slicePick its.toArray lo hi none=((its.drop (HT.sIx its.length 0 lo)).take (HT.sIx its.length its.length hi - HT.sIx its.length 0 lo)).toArray:=by obtain ⟨h1,h2,h3⟩:=zMZ lo hi its.toArray.size;unfold slicePick;rw [h1,h2,h3];simp only [sliceRange_one,pick_run,List.size_toArray] <;> rfl
def zXD (K:Fg):V->Option Int->Option Int->Hp->VK->Prop:=fun x lo hi H Q=>∃ a xs,x=.ref a/\SqL K H a xs/\∀ p,H p=none->Q (.ref p) (upd H p (.lst (zJU xs lo hi)))
theorem zH8:SlR X (zXD X.K):=by intro pins s Z H x v vl vu lo hi sl Q I rx hs pl pu h;obtain ⟨a,xs,rfl,hx,q⟩:=h;cases rx;obtain ⟨its,r,ht,hz⟩:=I.list hx;have hlen:=r.length;refine ⟨"list",_,slot_list_getitem.lookup,ht.isList.typeIs,?_⟩;refine wpAny_getItem_list_slice ht.isList hs pl pu .none (by simp) ?_ (by rw [List.size_toArray] <;> omega);rw [zK2,<- hlen];refine ⟨.ref s.heap.objs.size,_,I.laid (t':=s.toks) (o:=.lst (zJU xs lo hi)) (fun b ob q=>Heap.get?_push_of_some _ q) (Nat.le_refl _) ?_,rfl,q _ (I.hok.fresh (Nat.le_refl _))⟩;exact ⟨Nat.le_trans (zH7 xs lo hi) hz,_,0,(r.drop (HT.sIx xs.length 0 lo)).take (HT.sIx xs.length xs.length hi - HT.sIx xs.length 0 lo),Heap.get?_push_size _ rfl⟩
def zK3:V->Bool
 | .non=>true
 | .bl _=>true
 | .int _=>true
 | .str _=>true
 | _=>false
def eqV:V->V->Bool
 | .non,.non=>true
 | .bl a,.bl b=>a == b
 | .bl a,.int b=>(if a then 1 else 0) == b
 | .int a,.bl b=>a == (if b then 1 else 0)
 | .int a,.int b=>a == b
 | .str a,.str b=>a == b
 | _,_=>false
theorem zXE {A:Around}{s:Shared}{y x:V}{u v:Value}(ry:RelV y u)(rx:RelV x v)(fy:zK3 y=true)(fx:zK3 x=true):SeqAt.EqAt A s u v (eqV y x):=by
 cases y with
 | non =>
   cases ry;cases x with
   | non=>cases rx;exact SeqAt.EqAt.same _
   | bl b=>cases rx;exact SeqAt.EqAt.none_bool b
   | int b=>obtain ⟨t,rfl⟩:=rx;exact SeqAt.EqAt.none_int b t
   | str b=>obtain ⟨t,rfl⟩:=rx;exact SeqAt.EqAt.none_str b t
   | _=>exact absurd (show false=true from fx) Bool.false_ne_true
 | bl a =>
   cases ry;cases x with
   | non=>cases rx;exact SeqAt.EqAt.bool_none a
   | bl b=>cases rx;exact SeqAt.EqAt.bool_bool a b
   | int b=>obtain ⟨t,rfl⟩:=rx;exact SeqAt.EqAt.bool_int a b t
   | str b=>obtain ⟨t,rfl⟩:=rx;exact SeqAt.EqAt.bool_str a b t
   | _=>exact absurd (show false=true from fx) Bool.false_ne_true
 | int a =>
   obtain ⟨t',rfl⟩:=ry;cases x with
   | non=>cases rx;exact SeqAt.EqAt.int_none a t'
   | bl b=>cases rx;exact SeqAt.EqAt.int_bool a t' b
   | int b=>obtain ⟨t,rfl⟩:=rx;exact SeqAt.EqAt.int_int a t' b t
   | str b=>obtain ⟨t,rfl⟩:=rx;exact SeqAt.EqAt.int_str a t' b t
   | _=>exact absurd (show false=true from fx) Bool.false_ne_true
 | str a =>
   obtain ⟨t',rfl⟩:=ry;cases x with
   | non=>cases rx;exact SeqAt.EqAt.str_none a t'
   | bl b=>cases rx;exact SeqAt.EqAt.str_bool a t' b
   | int b=>obtain ⟨t,rfl⟩:=rx;exact SeqAt.EqAt.str_int a t' b t
   | str b=>obtain ⟨t,rfl⟩:=rx;exact SeqAt.EqAt.str_str a t' b t
   | _=>exact absurd (show false=true from fx) Bool.false_ne_true
 | _=>exact absurd (show false=true from fy) Bool.false_ne_true
def eqU (x:V)(u:Value):Bool:=match u with
 | .none=>eqV .non x
 | .bool b=>eqV (.bl b) x
 | .int i _=>eqV (.int i) x
 | .str z _=>eqV (.str z) x
 | _=>false
theorem zUo {x y:V}{u:Value}(r:RelV y u)(f:zK3 y=true):eqU x u=eqV y x:=by
 cases y with
 | non=>cases r;rfl
 | bl b=>cases r;rfl
 | int i=>obtain ⟨t,rfl⟩:=r;rfl
 | str z=>obtain ⟨t,rfl⟩:=r;rfl
 | _=>exact absurd (show false=true from f) Bool.false_ne_true
theorem zH9 {x:V}:∀ {xs:List V}{us:List Value},Vals xs us->xs.all zK3=true->us.any (eqU x)=xs.any fun y=>eqV y x
 | _,_,.nil,_=>rfl
 | y :: xs,u :: us,.cons r t,f=>by rw [List.all_cons,Bool.and_eq_true] at f;rw [List.any_cons,List.any_cons,zUo r f.1,zH9 t f.2]
theorem zFu {A:Around}{s:Shared}{x:V}{v:Value}(rx:RelV x v)(fx:zK3 x=true):∀ {xs:List V}{us:List Value},Vals xs us->xs.all zK3=true->∀ u∈us,SeqAt.EqAt A s u v (eqU x u)
 | _,_,.nil,_=>fun u hu=>by cases hu
 | y :: xs,u :: us,.cons r t,f=>fun u' hu=>by
   rw [List.all_cons,Bool.and_eq_true] at f;rcases List.mem_cons.mp hu with rfl | hu
   . rw [zUo r f.1];exact zXE r rx f.1 fx
   . exact zFu rx fx t f.2 u' hu
def inV (x:V)(xs:List V):Bool:=xs.any fun y=>eqV y x
def rIn (K:Fg)(neg:Bool):R2:=fun x y H Q=>∃ p xs,y=.ref p/\(SqL K H p xs\/SqT K H p xs)/\zK3 x=true/\xs.all zK3=true/\Q (.bl (if neg then !inV x xs else inV x xs)) H
theorem zRY:OpR X (compareOp .In) (rIn X.K false):=by
 intro pins s Z H x y v u Q I rx ry h;obtain ⟨p,xs,rfl,hq,fx,fs,q⟩:=h;cases ry;rcases hq with hq | hq
 . obtain ⟨its,r,pl,hz⟩:=I.list hq;refine SeqAt.in_listAt (eqU x) pl.isList (fun w hw=>zFu rx fx r fs w (by simpa using hw)) ⟨.bl _,H,I,rfl,?_⟩;rw [show its.toArray.any (eqU x)=its.any (eqU x) by simp,zH9 r fs];exact q
 . obtain ⟨its,r,pl,hz⟩:=I.tuple hq;refine SeqAt.in_tupleAt (eqU x) pl (fun w hw=>zFu rx fx r fs w (by simpa using hw)) ⟨.bl _,H,I,rfl,?_⟩;rw [show its.toArray.any (eqU x)=its.any (eqU x) by simp,zH9 r fs];exact q
theorem zMa:OpR X (compareOp .NotIn) (rIn X.K true):=by
 intro pins s Z H x y v u Q I rx ry h;obtain ⟨p,xs,rfl,hq,fx,fs,q⟩:=h;cases ry;rcases hq with hq | hq
 . obtain ⟨its,r,pl,hz⟩:=I.list hq;refine SeqAt.notIn_listAt (eqU x) pl.isList (fun w hw=>zFu rx fx r fs w (by simpa using hw)) ⟨.bl _,H,I,rfl,?_⟩;rw [show its.toArray.any (eqU x)=its.any (eqU x) by simp,zH9 r fs];exact q
 . obtain ⟨its,r,pl,hz⟩:=I.tuple hq;refine SeqAt.notIn_tupleAt (eqU x) pl (fun w hw=>zFu rx fx r fs w (by simpa using hw)) ⟨.bl _,H,I,rfl,?_⟩;rw [show its.toArray.any (eqU x)=its.any (eqU x) by simp,zH9 r fs];exact q
theorem zQ:zH1 X (.builtin "len") (fun xs H Q=>∃ p ys,xs=[.ref p]/\(SqL X.K H p ys\/SqT X.K H p ys)/\Q (.int ys.length) H):=by
 intro pins s Z H xs us Q I r h;obtain ⟨p,ys,rfl,hq,q⟩:=h;obtain ⟨u,rfl,rx⟩:=vals1 r;cases rx;have hn:=zKA;rcases hq with hq | hq
 . obtain ⟨its,r',pl,hz⟩:=I.list hq;have hlen:=r'.length;exact Calls.call_len_list pl.isList (by simp only [List.size_toArray] <;> omega) ⟨.int ys.length,H,I.tok _,⟨s.toks+1,by rw [List.size_toArray,hlen]⟩,q⟩
 . obtain ⟨its,r',pl,hz⟩:=I.tuple hq;have hlen:=r'.length;exact len_tuple pl (by simp only [List.size_toArray] <;> omega) ⟨.int ys.length,H,I.tok _,⟨s.toks+1,by rw [List.size_toArray,hlen]⟩,q⟩
theorem zDn:zH1 X (.type "list") (fun xs H Q=>∃ p ys,xs=[.ref p]/\(SqL X.K H p ys\/SqT X.K H p ys)/\∀ l,H l=none->Q (.ref l) (upd H l (.lst ys))):=by
 intro pins s Z H xs us Q I r h;obtain ⟨p,ys,rfl,hq,q⟩:=h;obtain ⟨u,rfl,rx⟩:=vals1 r;cases rx;have fin:∀ (its:List Value),Vals ys its->ys.length<=sizeLine->∀ (h' : Heap)(c' : Nat),(∀ b o',s.heap.get? b=some o'->h'.get? b=some o')->
     h'.get? s.heap.objs.size=some { cls:=.type "list",dict:=none,data:=.seq its.toArray c',slots:=#[] }->EP X pins Z Q (.ref s.heap.objs.size) { s with heap:=h' }:=fun its r' hz h' c' kp e =>
   ⟨.ref s.heap.objs.size,_,I.laid (t':=s.toks) kp (Nat.le_refl _) (show jj X.prog X.w _ h' _ (.lst ys) from ⟨hz,its,c',r',e⟩),rfl,q _ (I.hok.fresh (Nat.le_refl _))⟩
 rcases hq with hq | hq
 . obtain ⟨its,r',pl,hz⟩:=I.list hq;have hlen:=r'.length;obtain ⟨o,ho,hc,n,hd⟩:=pl.isList;exact call_list_seq p (.inl rfl) ho hc hd (fun h' c' kp e=>fin its r' hz h' c' kp e) (by simp only [List.size_toArray] <;> omega)
 . obtain ⟨its,r',pl,hz⟩:=I.tuple hq;have hlen:=r'.length;obtain ⟨o,ho,hc,n,hd⟩:=pl;exact call_list_seq p (.inr rfl) ho hc hd (fun h' c' kp e=>fin its r' hz h' c' kp e) (by simp only [List.size_toArray] <;> omega)
def tyV (K:Fg)(T:String)(x:V)(H:Hp):Prop:=match x with
 | .str _=>T = "str"
 | .int _=>T = "int"
 | .ref p=>(T = "list"/\∃ xs,SqL K H p xs)\/(T = "tuple"/\∃ o,K.lookup p=some o/\o.cls=.type "tuple"/\o.dict=none)\/
     (T = "dict"/\((∃ kvs,H p=some (.dK kvs))\/∃ kvs,H p=some (.dT kvs)))\/(T = "set"/\∃ S n,H p=some (.set S n))
 | _=>False
theorem zUp {pins:Y2}{Z:St}{H:Hp}{s:Shared}{T:String}{x:V}{v:Value}(I:Inv X pins Z H s)(r:RelV x v)(ty:tyV X.K T x H) : s.TypeIs v T/\∀ a,v=.ref a->∃ ob,s.heap.get? a=some ob/\ob.dict=none:=by
 cases x with
 | str z =>obtain ⟨t,rfl⟩:=r;cases (show T = "str" from ty);exact ⟨typeIs_str s z t,fun _ e=>nomatch e⟩
 | int i =>obtain ⟨t,rfl⟩:=r;cases (show T = "int" from ty);exact ⟨typeIs_int s i t,fun _ e=>nomatch e⟩
 | ref p =>
   cases r;rcases ty with ⟨rfl,xs,hq⟩ | ⟨rfl,o,hk,hc,hd⟩ | ⟨rfl,hk⟩ | ⟨rfl,S,n,hk⟩
   . obtain ⟨its,_,pl,_⟩:=I.list hq;refine ⟨pl.isList.typeIs,fun a e=>?_⟩;cases e;obtain ⟨o,n,e,c,hd,_⟩:=pl;exact ⟨o,e,hd⟩
   . refine ⟨⟨o,I.kIn p o hk,hc⟩,fun a e=>?_⟩;cases e;exact ⟨o,I.kIn _ o hk,hd⟩
   . have z:∃ o,s.heap.get? p=some o/\o.ExactDict:=by
       rcases hk with ⟨kvs,hk⟩ | ⟨kvs,hk⟩
       . obtain ⟨_,_,_,_,o,_,_,e,ex,_⟩:=I.hok p _ hk;exact ⟨o,e,ex⟩
       . obtain ⟨_,_,_,_,o,_,_,e,ex,_⟩:=I.hok p _ hk;exact ⟨o,e,ex⟩
     obtain ⟨o,e,ex⟩:=z;refine ⟨⟨o,e,ex.1⟩,fun a e2=>?_⟩;cases e2;exact ⟨o,e,ex.2.1⟩
   . obtain ⟨o,_,_,_,e,ex,_⟩:=I.hok p _ hk;refine ⟨⟨o,e,ex.1⟩,fun a e2=>?_⟩;cases e2;exact ⟨o,e,ex.2.1⟩
 | _=>exact False.elim ty
def zYH (K:Fg)(T:String)(r:V->List V->Hp->VK->Prop)(to:TE):TE:=fun Z H Q=>to Z H fun x H1=>tyV K T x H1/\r x [] H1 Q
def tBM (K:Fg)(T:String)(r:V->List V->Hp->VK->Prop)(to:TE)(t:TA):TE:=fun Z H Q=>to Z H fun x H1=>tyV K T x H1/\t Z H1 fun xs H2=>r x xs H2 Q
variable {o e:Expr}{es:List Expr}{to:TE}{t:TA}{name:Str}{apos cpos:Pos}{T id:String}{r:V->List V->Hp->VK->Prop}
theorem zXF (pa:PlainAttrs T)(slot:Slot T name id)(hty:typeOf (.builtin id)=pure (.type "method_descriptor"))(hm:MtR X id r)(ho:PE X o to)(hbase:attributeBase o name X.env (eval o X.env)=eval o X.env:=by rfl)(hline:(apos.endLine == cpos.line)=true:=by rfl):PE X (.Call (.Attribute o name apos) [] [] cpos) (zYH X.K T r to):=by intro pins s Z H Q I h;refine wpAny_Call_method0_late hbase hline (thn (ho pins s Z H _ I h) ?_);rintro v s1 ⟨x,H1,I1,r1,ty,q1⟩;obtain ⟨h1,h2⟩:=zUp I1 r1 ty;exact ⟨T,id,pa,slot,hty,h1,h2,Calls.callWith_builtin rfl (PySem.evalArgs_none (hm pins s1 Z H1 x [] v [] Q I1 r1 .nil q1))⟩
theorem zFv (pa:PlainAttrs T)(slot:Slot T name id)(hty:typeOf (.builtin id)=pure (.type "method_descriptor"))(hm:MtR X id r)(ho:PE X o to)(ha:PA X (e :: es) t)(hbase:attributeBase o name X.env (eval o X.env)=eval o X.env:=by rfl)(hfew:((backTo cpos (starEach (e :: es) X.env)).all (fun x=>!x.1) && (backToKw cpos (keywordEach [] X.env)).all (fun x=>x.1.isSome)
     && decide ((e :: es).length+([]:List Keyword).length+(if ([]:List Keyword).isEmpty then 0 else 1) < 30))=true:=by rfl)
   (hline:(apos.endLine == cpos.line)=true:=by rfl) (hs:starEach (e :: es) X.env=(false,eval e X.env) :: starEach es X.env:=by rfl) (hplain:(backTo cpos (starEach es X.env)).any (·.1)=false:=by rfl) :
   PE X (.Call (.Attribute o name apos) (e :: es) [] cpos) (tBM X.K T r to t):=by
 intro pins s Z H Q I h;refine wpAny_Call_method_late hbase hfew hline rfl (thn (ho pins s Z H _ I h) ?_);rintro v s1 ⟨x,H1,I1,r1,ty,q1⟩;obtain ⟨h1,h2⟩:=zUp I1 r1 ty;refine ⟨T,id,pa,slot,hty,h1,h2,?_⟩;have hA:=ha cpos pins s1 Z H1 _ I1 q1;rw [hs] at hA ⊢;refine Calls.callWith_builtin (by show (false || (backTo cpos (starEach es X.env)).any (·.1))=false;rw [hplain] <;> rfl) (Calls.evalArgs_plain ?_);exact thn hA fun us s2 ⟨vs,H2,I2,r2,q2⟩=>hm pins s2 Z H2 x vs v us Q I2 r1 r2 q2
end
def MtM (X:Cx)(id:String)(r:V->List V->Hp->VK->Prop):Prop :=
 ∀ (pins:Y2)(s:Shared)(Z:St)(H:Hp)(x:V)(xs:List V)(v:Value)(us:List Value)(Q:VK),Inv X pins Z H s->RelV x v->Vals xs us->r x xs H Q->
   wpAny (model X.prog X.w) X.A (call (.builtin id) (v :: us)) (EP X pins Z Q) X.xe s
theorem Vals.one:∀ {x:V}{us:List Value},Vals [x] us->∃ u,us=[u]/\RelV x u
 | _,_,.cons r .nil=>⟨_,rfl,r⟩
theorem Vals.zero:∀ {us:List Value},Vals [] us->us=[]
 | _,.nil=>rfl
theorem Vals.dropLast {xs:List V}{us:List Value}(h:Vals xs us):Vals xs.dropLast us.dropLast:=by
 induction h with
 | nil=>exact .nil
 | cons r t ih =>
   cases t with
   | nil=>exact .nil
   | cons q t'=>exact .cons r ih
theorem Vals.rep {xs:List V}{us:List Value}(h:Vals xs us):∀ k:Nat,Vals (List.replicate k xs).flatten (List.replicate k us).flatten
 | 0=>.nil
 | k+1=>by rw [List.replicate_succ,List.replicate_succ,List.flatten_cons,List.flatten_cons];exact Vals.append h (Vals.rep h k)
theorem zQF {α:Type}(l:List α):l.eraseIdx (l.length - 1)=l.dropLast:=by
 induction l with
 | nil=>rfl
 | cons a r ih =>
   cases r with
   | nil=>rfl
   | cons b r =>
     have e:(a :: b :: r).length - 1=((b :: r).length - 1)+1:=by have h1:(a :: b :: r).length=r.length+2:=rfl;have h2:(b :: r).length=r.length+1:=rfl;omega
     rw [e,List.eraseIdx_cons_succ,ih]
     all_goals rfl
theorem foldl_rep (its:List Value):∀ (k:Nat)(acc:List Value), List.foldl (fun x1 x2=>x1 ++ x2) acc.toArray (List.replicate k its.toArray)=(acc ++ (List.replicate k its).flatten).toArray
 | 0,acc=>by simp
 | k+1,acc=>by
   have e:acc.toArray ++ its.toArray=(acc ++ its).toArray:=(by simp);have e2:(acc ++ its) ++ (List.replicate k its).flatten=acc ++ (List.replicate (k+1) its).flatten:=by rw [List.replicate_succ,List.flatten_cons,List.append_assoc]
   rw [<- e2,<- foldl_rep its k (acc ++ its),<- e,List.replicate_succ,List.foldl_cons]
section
variable {X:Cx}{pins:Y2}{Z:St}{H:Hp}{s:Shared}{l b:Addr}{xs ys zs:List V}
theorem Inv.zYW {its its' : List Value}{n:Nat}{f:Array Value->Array Value}{t' : Nat}(I:Inv X pins Z H s)(hH:H l=some (.lst xs))(e:s.heap.get? l=some { cls:=.type "list",data:=.seq its.toArray n })(hf:f its.toArray=its'.toArray)(hv:Vals ys its')(hz:ys.length<=sizeLine) : Inv X pins Z (upd H l (.lst ys)) { s with heap:=s.heap.update l (Obj.mapSeq f),toks:=t' }:=by have q:=PySem.IsL.update e f;rw [hf] at q;refine I.write (x:=l) (e:=l) (by rw [hH];exact trivial) (.inl rfl) (fun b' u hb hu=>(Heap.get?_update_other s.heap (Obj.mapSeq f) (Ne.symm hb)).trans hu) ⟨_,q⟩ ?_;exact ⟨hz,its',_,hv,q⟩
theorem Inv.zY5 {its:List Value}{t' : Nat}(I:Inv X pins Z H s)(hv:Vals ys its)(hz:ys.length<=sizeLine) : Inv X pins Z (upd H s.heap.objs.size (.lst ys)) { s with heap:=s.heap.push { cls:=.type "list",data:=.seq its.toArray },toks:=t' } :=
 I.laid (fun _ _ q=>Heap.get?_push_of_some _ q) (Nat.le_refl _) ⟨hz,its,0,hv,Heap.get?_push_size _ rfl⟩
theorem Inv.fresh (I:Inv X pins Z H s):H s.heap.objs.size=none:=I.hok.fresh (Nat.le_refl _)
theorem Inv.zVd (I:Inv X pins Z H s)(hH:H l=some (.lst xs)):xs.length<=sizeLine/\∃ (its:List Value)(n:Nat),Vals xs its/\xs.length=its.length/\s.heap.get? l=some { cls:=.type "list",data:=.seq its.toArray n }:=by obtain ⟨z,its,n,r,e⟩:=I.hok l _ hH;exact ⟨z,its,n,r,r.length,e⟩
theorem zOy {n:Nat}(h:n<=sizeLine):Builtin.List.listTooLong n=false:=by unfold Builtin.List.listTooLong;exact decide_eq_false (by omega)
end
section
variable {X:Cx}
def zNi:V->List V->Hp->VK->Prop:=fun x vs H Q=>∃ l xs y,x=.ref l/\vs=[y]/\H l=some (.lst xs)/\xs.length < sizeLine/\Q .non (upd H l (.lst (xs ++ [y])))
theorem zAj:MtM X "list.append" zNi:=by intro pins s Z H x vs v us Q I rx rv h;obtain ⟨l,xs,y,rfl,rfl,hH,hz,q⟩:=h;cases rx;obtain ⟨u,rfl,ru⟩:=rv.one;obtain ⟨z,its,n,r,hl,e⟩:=I.zVd hH;refine call_meets F.slot_list_append ⟨_,e,rfl⟩ F.entry_list_append (F.args_list_append_2 _ _) (PySem.list_append l its.toArray n u (by rw [List.size_toArray];omega)) ⟨e,?_⟩;refine ⟨.non,_,I.zYW (its':=its ++ [u]) hH e (by simp) (r.append (.cons ru .nil)) ?_,rfl,q⟩;rw [List.length_append,List.length_singleton];omega
def zNj:V->List V->Hp->VK->Prop:=fun x vs H Q=>∃ l b xs zs,x=.ref l/\vs=[.ref b]/\H l=some (.lst xs)/\H b=some (.lst zs)/\xs.length+zs.length<=sizeLine/\Q .non (upd H l (.lst (xs ++ zs)))
theorem zDo:MtM X "list.extend" zNj:=by
 intro pins s Z H x vs v us Q I rx rv h;obtain ⟨l,b,xs,zs,rfl,rfl,hH,hB,hz,q⟩:=h;cases rx;obtain ⟨u,rfl,ru⟩:=rv.one;cases ru;obtain ⟨z,its,n,r,hl,e⟩:=I.zVd hH;obtain ⟨z2,its2,n2,r2,hl2,e2⟩:=I.zVd hB;have hsz:its.toArray.size+its2.toArray.size<=sizeLine:=by rw [List.size_toArray,List.size_toArray];omega
 have hlong:¬ (!its.toArray.isEmpty && Builtin.List.listTooLong (its.toArray.size+its2.toArray.size))=true:=by rw [zOy hsz,Bool.and_false];exact Bool.false_ne_true
 refine call_meets F.slot_list_extend ⟨_,e,rfl⟩ F.entry_list_extend (F.args_list_extend_2 _ _)
   (AutoSeq1.list_extend_list_list_0 l its.toArray n b its2.toArray n2 hlong (by rw [List.size_toArray];omega) (by omega)) ⟨e,e2,?_⟩
 refine ⟨.non,_,I.zYW (its':=its ++ its2) hH e (by simp) (r.append r2) ?_,rfl,q⟩;rw [List.length_append];omega
def zY6:V->List V->Hp->VK->Prop:=fun x vs H Q=>∃ l xs y,x=.ref l/\vs=[]/\H l=some (.lst xs)/\xs[xs.length - 1]? = some y/\Q y (upd H l (.lst xs.dropLast))
theorem zXG:MtM X "list.pop" zY6:=by
 intro pins s Z H x vs v us Q I rx rv h;obtain ⟨l,xs,y,rfl,rfl,hH,hy,q⟩:=h;cases rx;have hus:=rv.zero;subst hus;obtain ⟨z,its,n,r,hl,e⟩:=I.zVd hH;obtain ⟨u,hu,ru⟩:=r.get hy;have hy' : its.toArray[its.toArray.size - 1]? = some u:=by show its.toArray[its.length - 1]? = some u;rw [<- Array.getElem?_toList,<- hl];exact hu
 refine call_meets F.slot_list_pop ⟨_,e,rfl⟩ F.entry_list_pop (F.args_list_pop_1 _) (MeetsSeq.list_pop_last l its.toArray n u hy' (by rw [List.size_toArray];omega)) ⟨e,?_⟩;refine ⟨y,_,I.zYW (its':=its.dropLast) hH e ?_ r.dropLast ?_,ru,q⟩
 . show its.toArray.eraseIdxIfInBounds (its.toArray.size - 1)=its.dropLast.toArray;rw [List.size_toArray,List.eraseIdxIfInBounds_toArray,zQF]
 . rw [List.length_dropLast];omega
def zY7:R2:=fun x y H Q=>∃ l b xs zs,x=.ref l/\y=.ref b/\H l=some (.lst xs)/\H b=some (.lst zs)/\xs.length+zs.length<=sizeLine/\∀ p,H p=none->Q (.ref p) (upd H p (.lst (xs ++ zs)))
theorem zFw:OpR X (binaryOp .Add) zY7:=by
 intro pins s Z H x y v u Q I rx ry h;obtain ⟨l,b,xs,zs,rfl,rfl,hH,hB,hz,q⟩:=h;cases rx;cases ry;obtain ⟨z,its,n,r,hl,e⟩:=I.zVd hH;obtain ⟨z2,its2,n2,r2,hl2,e2⟩:=I.zVd hB;refine PySem.P.add_list e e2 ?_ (by rw [List.size_toArray,List.size_toArray];omega);have ea:its.toArray ++ its2.toArray=(its ++ its2).toArray:=by simp
 rw [ea];exact ⟨.ref _,_,I.zY5 (t':=s.toks) (r.append r2) (by rw [List.length_append];omega),rfl,q _ I.fresh⟩
def zY8:R2:=fun x y H Q=>∃ l k xs,x=.ref l/\y=.int k/\H l=some (.lst xs)/\-(2 ^ 63)<=k/\k < 2 ^ 63/\xs.length * k.toNat<=sizeLine/\
 ∀ p,H p=none->Q (.ref p) (upd H p (.lst (List.replicate k.toNat xs).flatten))
theorem len_rep {α:Type}(xs:List α)(k:Nat):(List.replicate k xs).flatten.length=k * xs.length:=by
 induction k with
 | zero=>simp
 | succ k ih=>rw [List.replicate_succ,List.flatten_cons,List.length_append,ih,Nat.succ_mul,Nat.add_comm]
theorem zXH:OpR X (binaryOp .Mult) zY8:=by
 intro pins s Z H x y v u Q I rx ry h;obtain ⟨l,k,xs,rfl,rfl,hH,h1,h2,hz,q⟩:=h;cases rx;obtain ⟨t,rfl⟩:=ry;obtain ⟨z,its,n,r,hl,e⟩:=I.zVd hH;have hlen:its.toArray.size * k.toNat<=sizeLine:=by rw [List.size_toArray,<- hl];exact hz
 have hcap:¬ its.toArray.size * k.toNat > (2 ^ 63 - 1) / 8:=by have:(sizeLine:Nat)<=(2 ^ 63 - 1) / 8:=(by decide);omega
 have hfit:¬ (!Builtin.List.listFitsIndex k)=true:=by rw [fitsIndex_both h1 h2];exact Bool.false_ne_true
 have hlong:¬ Builtin.List.listTooLong (its.toArray.size * k.toNat)=true:=by rw [zOy hlen];exact Bool.false_ne_true
 have hnew:List.foldl (fun x1 x2=>x1 ++ x2) #[] (List.replicate (if its.toArray.isEmpty=true then 0 else k.toNat) its.toArray)=(List.replicate k.toNat its).flatten.toArray:=by
   have f0:∀ m:Nat,List.foldl (fun x1 x2=>x1 ++ x2) #[] (List.replicate m its.toArray)=(List.replicate m its).flatten.toArray:=fun m=>by have:=foldl_rep its m [];rw [List.nil_append] at this;exact this
   rw [f0];cases its with
   | nil=>simp
   | cons a r'=>rw [if_neg (by simp)]
 refine wpAny_binaryOp_repeat_ref (T := "list") (U := "int") (by decide) ⟨_,e,rfl⟩ (fun s'=>typeIs_int s' k t) noFill_list_mul F.fills_int_mul F.slot_int_rmul repeat_list F.slot_int_index.lookup
   (call_meets F.slot_int_rmul (typeIs_int s k t) F.entry_int_rmul (F.args_int_rmul_2 _ _) (int___rmul___int_list k t l its.toArray n)
     ⟨e,rfl,⟨_,e,rfl⟩,call_meets F.slot_list_mul ⟨_,e,rfl⟩ F.entry_list_mul (F.args_list_mul_2 _ _) (AutoListH.list___mul___list_int_3 l its.toArray n k t hfit hcap hlong) ⟨e,?_⟩⟩)
 rw [hnew];exact ⟨.ref _,_,I.zY5 (t':=s.toks) (r.rep k.toNat) (by rw [len_rep,Nat.mul_comm];exact hz),rfl,q _ I.fresh⟩
end
section
variable {prog:Program}{w:World}{A:Around}{E:Y1}{s:Shared}
end
section
variable {X:Cx}
end
theorem Vals.ints:∀ {ns:List Int}{us:List Value},Vals (ns.map V.int) us->IntsAre us ns
 | [],us,h=>by rw [List.map_nil] at h;cases h;exact IntsAre.nil
 | n :: ns,us,h=>by
   rw [List.map_cons] at h;cases h with
   | cons r t =>obtain ⟨k,rfl⟩:=r;exact IntsAre.cons n k (Vals.ints t)
theorem zHE:∀ {us:List Value}{ns:List Int},IntsAre us ns->Vals (ns.map V.int) us
 | _,_,.nil=>by rw [List.map_nil];exact Paired.nil
 | _,_,.cons n t h=>by rw [List.map_cons];exact Paired.cons (show RelV (V.int n) (Value.int n t) from ⟨t,rfl⟩) (zHE h)
theorem Vals.zY9 {a:Addr}{us:List Value}(r:Vals [V.ref a] us):us=[Value.ref a]:=by
 cases r with
 | cons r t =>cases t;cases r;rfl
section
variable {prog:Program}{w:World}{A:Around}{E:Y1}{s:Shared}{l:Addr}{its:List Value}{ns:List Int}{Q:Y1}
end
section
variable {X:Cx}
theorem zRZ {n:Nat}(h:n < 64):n<=sizeLine:=by rw [sizeLine_eq];omega
end
section
variable {X:Cx}
end
section
variable {X:Cx}
end
section
variable {X:Cx}
end
mutual
inductive Dp (K:Fg)(H:Hp):V->PyData->Prop
 | non:Dp K H .non .none
 | bl (b:Bool):Dp K H (.bl b) (.bool b)
 | int (i:Int):Dp K H (.int i) (.int i)
 | str (x:Str):Dp K H (.str x) (.str x)
 | lst {a:Addr}{xs:List V}{ds:List PyData}:SqL K H a xs->zNk K H xs ds->Dp K H (.ref a) (.list ds)
 | tup {a:Addr}{xs:List V}{ds:List PyData}:SqT K H a xs->zNk K H xs ds->Dp K H (.ref a) (.tuple ds)
inductive zNk (K:Fg)(H:Hp):List V->List PyData->Prop
 | nil:zNk K H [] []
 | cons {v:V}{vs:List V}{d:PyData}{ds:List PyData}:Dp K H v d->zNk K H vs ds->zNk K H (v :: vs) (d :: ds)
end
section
variable {X:Cx}{pins:Y2}{Z:St}{H:Hp}{s:Shared}
mutual
theorem Dp.reads (I:Inv X pins Z H s):∀ (d:PyData)(v:V)(u:Value),Dp X.K H v d->RelV v u->∃ as,Reads s.heap u d as
 | .none,_,_,h,r=>by cases h;cases r;exact ⟨_,Reads.none⟩
 | .bool b,_,_,h,r=>by cases h;cases r;exact ⟨_,Reads.bool b⟩
 | .int i,_,_,h,r=>by cases h;obtain ⟨t,rfl⟩:=r;exact ⟨_,Reads.int i t⟩
 | .str x,_,_,h,r=>by cases h;obtain ⟨t,rfl⟩:=r;exact ⟨_,Reads.str x t⟩
 | .list ds,_,_,h,r=>by
   cases h with
   | lst hs ha =>cases r;obtain ⟨its,rv,⟨o,n,ho,hc,_,hd⟩,_⟩:=I.list hs;obtain ⟨as,hr⟩:=Dp.readsAll I ds _ its ha rv;exact ⟨_,Reads.list ho hc hd hr⟩
 | .tuple ds,_,_,h,r=>by
   cases h with
   | tup hs ha =>cases r;obtain ⟨its,rv,⟨o,ho,hc,n,hd⟩,_⟩:=I.tuple hs;obtain ⟨as,hr⟩:=Dp.readsAll I ds _ its ha rv;exact ⟨_,Reads.tuple ho hc hd hr⟩
 | .dict _,_,_,h,_=>by cases h
theorem Dp.readsAll (I:Inv X pins Z H s):∀ (ds:List PyData)(vs:List V)(us:List Value),zNk X.K H vs ds->Vals vs us->∃ as,ReadsAll s.heap us ds as
 | [],_,_,h,r=>by cases h;cases r;exact ⟨_,ReadsAll.nil⟩
 | d :: ds,_,_,h,r=>by
   cases h with
   | cons h1 h2 =>
     cases r with
     | cons r1 r2 =>obtain ⟨as,q1⟩:=Dp.reads I d _ _ h1 r1;obtain ⟨bs,q2⟩:=Dp.readsAll I ds _ _ h2 r2;exact ⟨_,ReadsAll.cons q1 q2⟩
end
end
section
variable {X:Cx}
def zYX (K:Fg):R2:=fun x y H Q=>∃ d e,Dp K H x d/\Dp K H y e/\SeqAt.shaped d=true/\SeqAt.shaped e=true/\Q (.bl (PyData.eqv d e)) H
theorem zXI (hu:X.A.units+64 < cLine):OpR X (compareOp .Eq) (zYX X.K):=by intro pins s Z H x y v u Q I rx ry h;obtain ⟨d,e,hd,he,sd,se,q⟩:=h;obtain ⟨as,r1⟩:=Dp.reads I d x v hd rx;obtain ⟨bs,r2⟩:=Dp.reads I e y u he ry;exact SeqAt.compareEq_shaped r1 r2 sd se hu ⟨.bl _,H,I,rfl,q⟩
end
abbrev zUq (h:Heap)(c:Addr)(v:Option Value):Prop:=h.IsCell c v
def zZS (scope sc:Scope):Scope :=
 { scope with names:=scope.names.map fun (n,k)=>if (k == .free && sc.kind == .function && sc.names.lookup n == some .cell) then (n,.cell) else (n,k) }
def jF (cells:List (Str×Addr)):List (Str×NameKind)->List (Str×Addr)->List (Str×Addr)
 | [],acc=>acc
 | (n,k) :: r,acc=>if k == .free then jF cells r ((n,(cells.lookup n).getD 0) :: acc) else jF cells r acc
theorem zHF (env:Env)(f:Str×NameKind->List (Str×Addr)->Sem (ForInStep (List (Str×Addr))))(hf:∀ n k c,f (n,k) c=if k == .free then (do let a <- cellOf env n;pure (.yield ((n,a) :: c))) else pure (.yield c)) : ∀ (names:List (Str×NameKind)) (acc:List (Str×Addr)),(∀ y∈names,y.2=.free->∃ c,env.cells.lookup y.1=some c)->forIn names acc f=pure (jF env.cells names acc)
 | [],acc,_=>by rw [List.forIn_nil];rfl
 | (n,k) :: r,acc,h=>by
   rw [List.forIn_cons,hf];have ih:=fun acc=>zHF env f hf r acc fun y hy=>h y (List.mem_cons_of_mem _ hy);unfold jF;by_cases hk:(k == NameKind.free)=true
   . rw [if_pos hk,if_pos hk];obtain ⟨c,hc⟩:=h (n,k) List.mem_cons_self (by simpa using hk);have e:cellOf env n=pure c:=by unfold cellOf;rw [hc]
     rw [e];have e2:(env.cells.lookup n).getD 0=c:=by rw [hc];rfl
     rw [e2];exact ih _
   . rw [if_neg hk,if_neg hk];exact ih _
theorem zQG {scope:Scope}{env:Env}(h:∀ y∈scope.names,y.2=.free->∃ c,env.cells.lookup y.1=some c):closureFor scope env=pure (jF env.cells scope.names []):=by simp only [closureFor];rw [zHF env _ (fun n k c=>rfl) scope.names [] h];rfl
theorem mem_lookup {α:Type}:∀ {l:List (Str×α)}{n:Str}{c:α},(n,c)∈l->∃ c',l.lookup n=some c'
 | (k,v) :: r,n,c,h=>by
   rw [List.lookup_cons];cases hb:n == k with
   | true=>exact ⟨_,rfl⟩
   | false =>
     rcases List.mem_cons.mp h with e | h
     . cases e;simp at hb
     . exact mem_lookup h
theorem zCc {cells:List (Str×Addr)}:∀ {names:List (Str×NameKind)}{acc:List (Str×Addr)}{n:Str}{c:Addr},(n,c)∈jF cells names acc->(n,c)∈acc\/((n,.free)∈names/\c=(cells.lookup n).getD 0)
 | [],_,_,_,h=>.inl h
 | (m,k) :: r,acc,n,c,h=>by
   unfold jF at h;split at h
   . rename_i hk;have hk:k=.free:=by simpa using hk
     rcases zCc h with h | ⟨h1,h2⟩
     . rcases List.mem_cons.mp h with e | h
       . cases e;exact .inr ⟨hk ▸ List.mem_cons_self,rfl⟩
       . exact .inl h
     . exact .inr ⟨List.mem_cons_of_mem _ h1,h2⟩
   . rcases zCc h with h | ⟨h1,h2⟩
     . exact .inl h
     . exact .inr ⟨List.mem_cons_of_mem _ h1,h2⟩
theorem zFO {cells:List (Str×Addr)}:∀ {names:List (Str×NameKind)}{acc:List (Str×Addr)}{p:Str×Addr},p∈acc->p∈jF cells names acc
 | [],_,_,h=>h
 | (m,k) :: r,acc,p,h=>by
   unfold jF;split
   . exact zFO (List.mem_cons_of_mem _ h)
   . exact zFO h
theorem zFP {cells:List (Str×Addr)}:∀ {names:List (Str×NameKind)}{acc:List (Str×Addr)}{n:Str},(n,.free)∈names->(n,(cells.lookup n).getD 0)∈jF cells names acc
 | (m,k) :: r,acc,n,h=>by
   unfold jF;rcases List.mem_cons.mp h with e | h
   . cases e;exact zFO List.mem_cons_self
   . split
     . exact zFP h
     . exact zFP h
theorem zDp:∀ {names:List (Str×NameKind)}{h:Heap}{acc:List (Str×Addr)}{x:Str}{c:Addr},(x,c)∈cellsFrom h.objs.size names acc-> (x,c)∈acc\/((x,.cell)∈names/\h.objs.size<=c/\zUq (pushCells h names) c none)
 | [],_,_,_,_,h=>.inl h
 | (n,k) :: r,h,acc,x,c,hm=>by
   unfold cellsFrom at hm;unfold pushCells;split at hm
   . rename_i hk;rw [if_pos hk];have hk:k=.cell:=by simpa using hk
     rw [<- Heap.size_push h { cls:=.type "cell",data:=.cell none }] at hm;rcases zDp hm with hm | ⟨h1,h2,h3⟩
     . rcases List.mem_cons.mp hm with e | hm
       . cases e;exact .inr ⟨hk ▸ List.mem_cons_self,Nat.le_refl _,_,pushCells_keeps r _ _ _ (Heap.get?_push_size _ rfl),rfl⟩
       . exact .inl hm
     . rw [Heap.size_push] at h2;exact .inr ⟨List.mem_cons_of_mem _ h1,Nat.le_of_succ_le h2,h3⟩
   . rename_i hk;rw [if_neg hk];rcases zDp hm with hm | ⟨h1,h2,h3⟩
     . exact .inl hm
     . exact .inr ⟨List.mem_cons_of_mem _ h1,h2,h3⟩
theorem zFx:∀ {names:List (Str×NameKind)}{n:Nat}{acc:List (Str×Addr)}{p:Str×Addr},p∈acc->p∈cellsFrom n names acc
 | [],_,_,_,h=>h
 | (m,k) :: r,n,acc,p,h=>by
   unfold cellsFrom;split
   . exact zFx (List.mem_cons_of_mem _ h)
   . exact zFx h
theorem zIA:∀ {names:List (Str×NameKind)}{n:Nat}{acc:List (Str×Addr)}{x:Str},(x,.cell)∈names->∃ c,(x,c)∈cellsFrom n names acc
 | (m,k) :: r,n,acc,x,h=>by
   unfold cellsFrom;rcases List.mem_cons.mp h with e | h
   . cases e;exact ⟨n,zFx List.mem_cons_self⟩
   . split
     . exact zIA h
     . exact zIA h
theorem zIB:∀ {names:List (Str×NameKind)}{h:Heap}{acc:List (Str×Addr)}{x y:Str}{c:Addr},(∀ p∈acc,p.2 < h.objs.size)->(∀ x y c,(x,c)∈acc->(y,c)∈acc->x=y)-> (x,c)∈cellsFrom h.objs.size names acc->(y,c)∈cellsFrom h.objs.size names acc->x=y
 | [],_,_,_,_,_,_,hi,h1,h2=>hi _ _ _ h1 h2
 | (n,k) :: r,h,acc,x,y,c,hl,hi,h1,h2=>by
   unfold cellsFrom at h1 h2;split at h1
   . rename_i hk;rw [if_pos hk] at h2;rw [<- Heap.size_push h { cls:=.type "cell",data:=.cell none }] at h1 h2;refine zIB (h:=h.push _) (fun p hp=>?_) (fun x y c a b=>?_) h1 h2
     . rw [Heap.size_push];rcases List.mem_cons.mp hp with rfl | hp
       . exact Nat.lt_succ_self _
       . exact Nat.lt_succ_of_lt (hl p hp)
     . rcases List.mem_cons.mp a with e | a <;> rcases List.mem_cons.mp b with e' | b
       . cases e;cases e';rfl
       . cases e;exact absurd (hl _ b) (Nat.lt_irrefl _)
       . cases e';exact absurd (hl _ a) (Nat.lt_irrefl _)
       . exact hi _ _ _ a b
   . rename_i hk;rw [if_neg hk] at h2;exact zIB hl hi h1 h2
theorem zNl {M:Model}{A:Around}{E:Y1}{s:Shared}{scope:Scope}{globals:Addr}{closure:List (Str×Addr)}{qual:Str}{func:Option Addr}{code:Value}{around:Env}{builtins:Addr}{Q:Env->Shared->Prop}(h:Q (newEnv scope s.heap.objs.size globals (cellsFrom (s.heap.objs.size+1) scope.names closure) qual func code (some around) builtins)
     { s with heap:=pushCells (s.heap.push { cls:=.type "dict",data:=.dict #[] }) scope.names }) :
   wpAny M A (newFunctionEnv scope globals closure [] qual func code (some around) builtins) Q E s:=by
 simp only [newFunctionEnv,Option.isSome_some,if_true];refine wpAny_bind (wpAny_alloc ?_);refine wpAny_bind (wpAny_layCells _ (fun n k c=>rfl) scope.names closure _ _ ?_);rw [show ({ s with heap:=s.heap.push { cls:=.type "dict",data:=.dict #[] } }:Shared).heap.objs.size=s.heap.objs.size+1 from Heap.size_push ..];rw [List.forIn_nil];exact wpAny_bind (wpAny_pure (wpAny_pure h))
theorem zFQ {sc:Scope}:∀ {names:List (Str×NameKind)}{x:Str}{k:NameKind}, (names.map fun (n,k)=>if (k == NameKind.free && sc.kind == .function && sc.names.lookup n == some .cell) then (n,NameKind.cell) else (n,k)).lookup x=some k-> ∃ k',names.lookup x=some k'/\(k=k'\/(k' = .free/\k=.cell))
 | [],_,_,h=>by simp at h
 | (n,k₀) :: r,x,k,h=>by
   have ih:=@zFQ sc r x k;have h' : List.lookup x ((if (k₀ == NameKind.free && sc.kind == .function && sc.names.lookup n == some .cell)=true then (n,NameKind.cell) else (n,k₀)) :: (r.map _))=some k:=h;cases hx:x == n with
   | true =>
     simp only [List.lookup_cons,hx];by_cases hc:(k₀ == NameKind.free && sc.kind == .function && sc.names.lookup n == some .cell)=true
     . rw [if_pos hc] at h';simp only [List.lookup_cons,hx] at h';cases h';simp only [Bool.and_eq_true,beq_iff_eq] at hc;exact ⟨k₀,rfl,.inr ⟨hc.1.1,rfl⟩⟩
     . rw [if_neg hc] at h';simp only [List.lookup_cons,hx] at h';cases h';exact ⟨_,rfl,.inl rfl⟩
   | false =>
     simp only [List.lookup_cons,hx];by_cases hc:(k₀ == NameKind.free && sc.kind == .function && sc.names.lookup n == some .cell)=true
     . rw [if_pos hc] at h';simp only [List.lookup_cons,hx] at h';exact ih h'
     . rw [if_neg hc] at h';simp only [List.lookup_cons,hx] at h';exact ih h'
structure zTg (N:List Str)(sc scope:Scope)(own:List (Str×Nat)):Prop where
 kind:scope.kind=.function
 uniq:∀ y∈scope.names,scope.names.lookup y.1=some y.2
 ix:∀ p∈own,N[p.2]? = some p.1
 free:∀ y∈scope.names,y.2=.free->sc.names.lookup y.1=some .cell\/sc.names.lookup y.1=some .free
 own:∀ y∈scope.names,y.2=.local\/y.2=.cell->y.1∈own.map (·.1)\/y.1∉N
def wipe (Z:St):List Nat->St
 | []=>Z
 | v :: vs=>(wipe Z vs).set v none
theorem zFR (Z:St):∀ vs:List Nat,(wipe Z vs).length=Z.length
 | []=>rfl
 | v :: vs=>by unfold wipe;rw [List.length_set,zFR Z vs]
theorem zIC {Z:St}{i:Nat}{x:V}:∀ {vs:List Nat},(wipe Z vs)[i]? = some (some x)->Z[i]? = some (some x)/\i∉vs
 | [],h=>⟨h,by simp⟩
 | v :: vs,h=>by
   unfold wipe at h;by_cases hi:v=i
   . subst hi;by_cases hv:v < (wipe Z vs).length
     . rw [List.getElem?_set_self hv] at h;cases h
     . rw [List.getElem?_eq_none (by simpa using hv)] at h;cases h
   . rw [List.getElem?_set_ne hi] at h;obtain ⟨h1,h2⟩:=zIC h;exact ⟨h1,by simp only [List.mem_cons,not_or];exact ⟨fun e=>hi e.symm,h2⟩⟩
abbrev Cx.blk (X:Cx)(s:Shared)(H:Hp)(scope:Scope)(cenv:Env)(fp:List Addr):Cx:={ X with s_0:=s,H_0:=H,env:=cenv,outer:=X.stack,ex:=fp,fn:=fun x=>scope.names.lookup x == some .cell,pn:=[],xe:=fun _ _=>False }
section
variable {X:Cx}{pins:Y2}{Z:St}{H:Hp}{s:Shared}
theorem zNm {scope:Scope}{own:List (Str×Nat)}{fp:List Addr}(I:Inv X pins Z H s)(ok:zTg X.N X.env.scope scope own)(hN:X.N.Nodup)(hfp:∀ b∈fp,zRF X pins H b/\b < s.heap.objs.size) : Inv (X.blk s H scope (compEnvC scope (cellsFrom (s.heap.objs.size+1) scope.names (jF X.env.cells scope.names [])) s.heap.objs.size X.env) fp) [] (wipe Z (own.map (·.2))) H { s with heap:=pushCells (s.heap.push { cls:=.type "dict",data:=.dict #[] }) scope.names }:=by
 have hfree:∀ y∈scope.names,y.2=.free->∃ c,X.env.cells.lookup y.1=some c:=fun y hy e=>by
   rcases ok.free y hy e with k | k
   . exact I.ok.has _ (.inl k)
   . exact I.ok.has _ (.inr k)
 generalize hcenv:compEnvC scope (cellsFrom (s.heap.objs.size+1) scope.names (jF X.env.cells scope.names [])) s.heap.objs.size X.env=cenv;have kp:∀ b o,s.heap.get? b=some o->(pushCells (s.heap.push { cls:=.type "dict",data:=.dict #[] }) scope.names).get? b=some o:=fun b o e=>pushCells_keeps _ _ _ _ (Heap.get?_push_of_some _ e);have hL:cenv.locals=s.heap.objs.size:=by rw [<- hcenv];rfl
 have hcl:cenv.cells=cellsFrom (s.heap.objs.size+1) scope.names (jF X.env.cells scope.names []):=by rw [<- hcenv];rfl
 have hsc:cenv.scope=zZS scope X.env.scope:=by rw [<- hcenv];rfl
 rw [<- Heap.size_push s.heap { cls:=.type "dict",data:=.dict #[] }] at hcl;have cm:∀ {y c},(y,c)∈jF X.env.cells scope.names []->X.env.cells.lookup y=some c/\c < s.heap.objs.size:=fun {y c} hm=>by
   rcases zCc hm with hm | ⟨h1,rfl⟩
   . cases hm
   . obtain ⟨c,hc⟩:=hfree _ h1 rfl;rw [hc];obtain ⟨w,z⟩:=I.cell _ _ hc;exact ⟨rfl,z.lt⟩
 have mem:∀ {y c},cenv.cells.lookup y=some c->(X.env.cells.lookup y=some c/\c < s.heap.objs.size)\/(s.heap.objs.size+1<=c/\zUq (pushCells (s.heap.push { cls:=.type "dict",data:=.dict #[] }) scope.names) c none):=fun {y c} e=>by
   rw [hcl] at e;rcases zDp (PySem.mem_of_lookup e) with hm | ⟨_,h2,h3⟩
   . exact .inl (cm hm)
   . rw [Heap.size_push] at h2;exact .inr ⟨h2,h3⟩
 have look:∀ {y},scope.names.lookup y=some .free->∃ c,cenv.cells.lookup y=some c/\X.env.cells.lookup y=some c:=fun {y} hl=>by
   have hy:(y,NameKind.free)∈scope.names:=PySem.mem_of_lookup hl;obtain ⟨c',e'⟩:=mem_lookup (zFx (names:=scope.names) (n:=(s.heap.push { cls:=.type "dict",data:=.dict #[] }).objs.size) (zFP (cells:=X.env.cells) (acc:=[]) hy));rw [<- hcl] at e';refine ⟨c',e',?_⟩;rw [hcl] at e';rcases zDp (PySem.mem_of_lookup e') with hm | ⟨h1,_,_⟩
   . exact (cm hm).1
   . have:=ok.uniq _ h1;rw [hl] at this;cases this
 have okB:(X.blk s H scope cenv fp).Ok:=by
   refine ⟨I.ok.mod,by show cenv.scope.kind=_;rw [hsc];exact ok.kind,by show cenv.globals=_;rw [<- hcenv];exact I.ok.glob,by show cenv.builtins=_;rw [<- hcenv];exact I.ok.blt,by show s.heap.objs.size<=cenv.locals;rw [hL];exact Nat.le_refl _,
     fun y z c e1 e2=>?_,fun y hy=>?_,fun y c z e=>?_,I.ok.hd,I.ok.frames,.inl rfl,fun b hb=>⟨?_,fun y c e z=>?_⟩,I.bs,Nat.le_trans I.ok.bsz I.sz,fun b o e hb=>?_,fun b hb z=>?_,I.stack,I.zKs⟩
   . have e1:cenv.cells.lookup y=some c:=e1;have e2:cenv.cells.lookup z=some c:=e2;rw [hcl] at e1 e2;refine zIB (fun p hp=>?_) (fun y z c a b=>I.ok.inj y z c (cm a).1 (cm b).1) (PySem.mem_of_lookup e1) (PySem.mem_of_lookup e2);rw [Heap.size_push];exact Nat.lt_succ_of_lt (cm (y:=p.1) (c:=p.2) hp).2
   . show ∃ c,cenv.cells.lookup y=some c;have key:∀ k,cenv.kindOf y=some k->(k=.cell\/k=.free)->∃ c,cenv.cells.lookup y=some c:=fun k hk hk'=>by
       unfold Env.kindOf at hk;rw [hsc] at hk;obtain ⟨k',e,r⟩:=zFQ hk;have:k' = .cell\/k' = .free:=by
         rcases r with rfl | ⟨rfl,_⟩
         . exact hk'
         . exact .inr rfl
       rcases this with rfl | rfl
       . obtain ⟨c,hm⟩:=zIA (n:=(s.heap.push { cls:=.type "dict",data:=.dict #[] }).objs.size) (acc:=jF X.env.cells scope.names []) (PySem.mem_of_lookup e);obtain ⟨c',e'⟩:=mem_lookup hm;exact ⟨c',by rw [hcl];exact e'⟩
       . obtain ⟨c,h1,_⟩:=look e;exact ⟨c,h1⟩
     rcases hy with hy | hy
     . exact key _ hy (.inl rfl)
     . exact key _ hy (.inr rfl)
   . have z:(scope.names.lookup y == some NameKind.cell)=true:=z;have z:scope.names.lookup y=some .cell:=(by simpa using z);have e:cenv.cells.lookup y=some c:=e;rw [hcl] at e;rcases zDp (PySem.mem_of_lookup e) with hm | ⟨_,h2,_⟩
     . rcases zCc hm with hm | ⟨h1,_⟩
       . cases hm
       . have q:=ok.uniq _ h1;rw [z] at q;cases q
     . rw [Heap.size_push] at h2;exact Nat.le_of_succ_le h2
   . show b≠cenv.locals;rw [hL];exact Nat.ne_of_lt (hfp b hb).2
   . have e:cenv.cells.lookup y=some c:=e;rcases mem e with ⟨h1,_⟩ | ⟨h1,_⟩
     . exact (hfp b hb).1.2.2.2.2.1 y c h1 z
     . have h2:s.heap.objs.size+1<=b:=by rw [<- z];exact h1
       exact absurd (Nat.lt_of_lt_of_le (hfp b hb).2 (Nat.le_of_succ_le h2)) (Nat.lt_irrefl _)
   . rcases (hfp b hb).1.2.2.2.1 with z | z
     . exact I.ok.noex b o e z
     . exact absurd (Nat.lt_of_lt_of_le (Heap.lt_size e) (Nat.le_trans I.ok.bsz z)) (Nat.lt_irrefl _)
   . rcases List.mem_cons.mp (I.zMM b z) with z | z
     . exact (hfp b hb).1.2.1 z
     . exact (hfp b hb).1.2.2.1 z
 refine ⟨okB,rfl,I.bare,Un.kept kp,⟨fun _=>none,?_,fun i y av e1 e2 e3=>?_⟩,fun y c e=>?_,?_,fun y c e=>?_,fun p hp=>?_,I.hok.kept kp,by rw [zFR];exact I.len⟩
 . show Heap.Ns _ cenv.locals _;rw [hL];exact Heap.Ns.keeps (Heap.Ns.new ..) fun b o e=>pushCells_keeps _ _ _ _ e
 . obtain ⟨e2,hne⟩:=zIC e2;have hfr:scope.names.lookup y=some .free/\(cenv.kindOf y=some .cell\/cenv.kindOf y=some .free):=by
     have key:∀ k,cenv.scope.names.lookup y=some k->k=.local\/k=.cell\/k=.free->scope.names.lookup y=some .free/\(cenv.kindOf y=some .cell\/cenv.kindOf y=some .free):=fun k hk hk'=>by
       have hk0:=hk;rw [hsc] at hk;obtain ⟨k',e,r⟩:=zFQ hk;have no:¬ (k' = .local\/k' = .cell):=fun hh=>by
         rcases ok.own _ (PySem.mem_of_lookup e) hh with e' | e'
         . obtain ⟨p,hp,hpy⟩:=List.mem_map.mp e';have e3:=ok.ix p hp;have:p.1=y:=hpy;rw [this] at e3;exact hne (List.mem_map.mpr ⟨p,hp,zKt hN e3 e1⟩)
         . exact e' (List.mem_of_getElem? e1)
       rcases r with rfl | ⟨rfl,rfl⟩
       . rcases hk' with rfl | rfl | rfl
         . exact absurd (.inl rfl) no
         . exact absurd (.inr rfl) no
         . exact ⟨e,.inr hk0⟩
       . exact ⟨e,.inl hk0⟩
     have e3:Vis cenv.scope y:=e3;rcases e3 with e3 | e3 | e3
     . exact key _ e3 (.inl rfl)
     . exact key _ e3 (.inr (.inl rfl))
     . exact key _ e3 (.inr (.inr rfl))
   obtain ⟨m,hn,hl⟩:=I.loc;have hvis:Vis X.env.scope y:=(ok.free _ (PySem.mem_of_lookup hfr.1) rfl).elim (fun k=>.inr (.inl k)) (fun k=>.inr (.inr k));obtain ⟨w,r,q⟩:=hl i y av e1 e2 hvis;refine ⟨w,r,.inr ⟨hfr.2,?_⟩⟩;obtain ⟨c,h1,h2⟩:=look hfr.1;rcases q with ⟨k,_⟩ | ⟨_,c',e',z⟩
   . have k:X.env.scope.names.lookup y=some .local:=k;rcases ok.free _ (PySem.mem_of_lookup hfr.1) rfl with k' | k' <;> rw [show X.env.scope.names.lookup y=_ from k'] at k <;> cases k
   . rw [h2] at e';cases e';exact ⟨c,h1,z.keeps kp⟩
 . have e:cenv.cells.lookup y=some c:=e;rcases mem e with ⟨h1,_⟩ | ⟨_,z⟩
   . obtain ⟨w,z⟩:=I.cell y c h1;exact ⟨w,z.keeps kp⟩
   . exact ⟨_,z⟩
 . show H cenv.locals=none;rw [hL];exact I.hok.fresh (Nat.le_refl _)
 . have e:cenv.cells.lookup y=some c:=e;rcases mem e with ⟨h1,_⟩ | ⟨h1,_⟩
   . exact I.freeC y c h1
   . exact I.hok.fresh (Nat.le_of_succ_le h1)
 . exact absurd (show p∈([]:Y2) ++ [] from hp) (by simp)
theorem zXJ {E:Y1}{D:Addr}{xs:List V}{y:V}{v:Value}{Q:Y1}(I:Inv X pins Z H s)(hD:H D=some (.lst xs))(hz:xs.length < sizeLine)(r:RelV y v)(h:∀ s',Inv X pins Z (upd H D (.lst (xs ++ [y]))) s'->Q .none s'):wpAny (model X.prog X.w) X.A (call (.builtin "list.append") [.ref D,v]) Q E s:=by obtain ⟨hz',its,n,ri,e⟩:=I.hok D _ hD;have hl:=ri.length;refine append_at (hsz:=by rw [List.size_toArray];omega) e fun h' sb ho'=>?_;refine h { s with heap:=h' } (I.write (t':=s.toks) (by rw [hD];trivial) (.inl rfl) (fun b u hb q=>(sb.2 b hb).trans q) ⟨_,ho'⟩ ⟨by rw [List.length_append];exact hz,its ++ [v],n+1,ri.append (.cons r .nil),?_⟩);rw [ho'];simp
def PTs (X:Cx)(ifs:List Expr)(t:TT):Prop :=
 ∀ (pins:Y2)(s:Shared)(Z:St)(H:Hp)(Q:Bool->Hp->Prop),Inv X pins Z H s->t Z H Q->
   wpAny (model X.prog X.w) X.A (forIn ifs true fun c r=>if r=true then do let ok <- isTrue c X.env (eval c X.env);pure (ForInStep.yield ok) else pure (ForInStep.yield r)) (TP X pins Z Q) X.xe s
def zTh:TT:=fun _ H Q=>Q true H
theorem zK4:PTs X [] zTh:=fun _ _ _ H _ I h=>wpAny_tests_nil ⟨H,I,h⟩
theorem zRa {c:Expr}{t:TT}(h:PT X c t):PTs X [c] t:=fun pins s Z H Q I hw=>wpAny_tests_one (h pins s Z H Q I hw)
end
theorem zWl {α:Type}{t:Sem α}{Q Q' : α->Shared->Prop}{M:Model}{A:Around}{E:Y1}{s:Shared}(h:wpAny M A t Q (fun _ _=>False) s)(hQ:∀ a s,Q a s->Q' a s):wpAny M A t Q' E s:=wpAny_mono h hQ fun _ _ z=>False.elim z
theorem zMb {prog:Program}{w:World}{A:Around}{R:Result->Shared->Prop}{s:Shared}{elt target iter:Expr}{ifs:List Expr}{scope:Scope}{pos:Pos}{it acc:Value}{env:Env}(I:Nat->Shared->Prop)(turn:∀ n s,I n s->wpAny (model prog w) A (pyNext it) (fun r s₁=>match r with
     | none=>R (.ok .next) s₁
     | some v=>wpAny (model prog w) A (letOwnedTupleGo target it v) (fun _ s₁'=>wpAny (model prog w) A (assign target env v) (fun _ s₂ =>
         wpAny (model prog w) A (forIn ifs true fun c r=>if r=true then do let ok <- isTrue c env (eval c env);pure (ForInStep.yield ok) else pure (ForInStep.yield r)) (fun ok s₃ =>
           if ok=true then wpAny (model prog w) A (eval elt env) (fun x s₄ =>
             wpAny (model prog w) A (call (.builtin "list.append") [acc,x]) (fun _ s₅=>∃ m,m < n/\I m s₅) (notedBy (model prog w) A env fun e s'=>R (.error e) s') s₄) (notedBy (model prog w) A env fun e s'=>R (.error e) s') s₃
           else ∃ m,m < n/\I m s₃) (notedBy (model prog w) A env fun e s'=>R (.error e) s') s₂) (notedBy (model prog w) A env fun e s'=>R (.error e) s') s₁') (notedBy (model prog w) A env fun e s'=>R (.error e) s') s₁) (notedBy (model prog w) A env fun e s'=>R (.error e) s') s)
   (n:Nat) (h:I n s) :
   codeAny (model prog w) A (.compLoop (.ListComp elt [⟨target,iter,ifs,0⟩] scope pos) 0 it acc env) R s:=by
 refine codeAny_loop rfl I (fun n s hI=>?_) n h;show wpAny _ A ((compTurn (.ListComp elt [⟨target,iter,ifs,0⟩] scope pos) 0 it acc env).onRaise (fun x=>do noteFrame x env;theTreesLotGoes x)) _ _ s;refine wpAny_noted ?_;rw [compTurn_list];refine wpAny_bind (wpAny_standAt (wpAny_bind (wpAny_mono (turn n s hI) (fun r s₁ h₁=>?_) fun _ _ h'=>h')));cases r with
 | none=>exact wpAny_pure h₁
 | some v =>
   refine wpAny_bind (wpAny_mono h₁ (fun _ s₁' h₁'=>?_) fun _ _ h'=>h');refine wpAny_bind (wpAny_mono h₁' (fun _ s₂ h₂=>wpAny_bind (wpAny_mono h₂ (fun ok s₃ h₃=>?_) fun _ _ h'=>h')) fun _ _ h'=>h');cases ok with
   | false=>exact wpAny_pure ⟨rfl,h₃⟩
   | true =>exact wpAny_bind (wpAny_bind (wpAny_mono h₃ (fun x s₄ h₄=>wpAny_bind (wpAny_mono h₄ (fun _ s₅ h₅=>wpAny_pure (wpAny_pure ⟨rfl,h₅⟩)) fun _ _ h'=>h')) fun _ _ h'=>h'))
section
variable {X:Cx}
def tLc (wi:TI)(g:TG)(tt:TT)(te:TE)(vs:List Nat):TE:=fun Z H Q=>wi Z H fun J H1=>∀ D,H1 D=none->∃ W:Nat->Nat->Hp->Prop,(∃ m,W 0 m (upd H1 D (.lst [])))/\∀ i m H,W i m H->
 (J.stop i H/\Q (.ref D) H)\/(J.go i H/\∃ Nx:Hp->Prop,(∀ H',Nx H'->∃ m',m' < m/\W (i+1) m' H')/\∀ x H',J.yld i H x H'->g x (wipe Z vs) H' fun σ2 H2=>wipe σ2 vs=wipe Z vs/\tt σ2 H2 fun b H3 =>
   if b=true then te σ2 H3 fun y H4=>∃ acc,H4 D=some (.lst acc)/\acc.length < sizeLine/\Nx (upd H4 D (.lst (acc ++ [y]))) else Nx H3)
theorem zRb {pins:Y2}{s:Shared}{Z:St}{H:Hp}{Q:VK}{elt tg iter:Expr}{ifs:List Expr}{scope:Scope}{own:List (Str×Nat)}{pos pos' : Pos}{wi:TI}{g:TG}{tt:TT}{te:TE}{use:Option (Value->Sem Unit)}{Qf:Y1}(hc:X.calm=true)(hN:X.N.Nodup)(I:Inv X pins Z H s)(hi:PI X tg iter wi)(ok:zTg X.N X.env.scope scope own)(hg:∀ (s:Shared) (H:Hp) (C:Addr) (cl:List (Str×Addr)) (fp:List Addr),PG (X.blk s H scope (compEnvC scope cl C X.env) fp) tg g)(ht:∀ (s:Shared) (H:Hp) (C:Addr) (cl:List (Str×Addr)) (fp:List Addr),PTs (X.blk s H scope (compEnvC scope cl C X.env) fp) ifs tt)(he:∀ (s:Shared) (H:Hp) (C:Addr) (cl:List (Str×Addr)) (fp:List Addr),PE (X.blk s H scope (compEnvC scope cl C X.env) fp) elt te)(hs:∀ x,foldedSetIterable iter X.env x=pure x)(h:tLc wi g tt te (own.map (·.2)) Z H Q)(hRR:∀ D C s' m H',Inv X pins Z H' s'->Q (.ref D) H'->s'.heap.Ns C m->zRF X pins H' C->compPost (model X.prog X.w) X.A X.xe use Qf (.ref D) C (.ok .next) s') : wpAny (model X.prog X.w) X.A (comprehension (.ListComp elt [⟨tg,iter,ifs,0⟩] scope pos) scope X.env pos' (newList []) false (eval iter X.env) use) Qf X.xe s:=by
 have hfree:∀ y∈scope.names,y.2=.free->∃ c,X.env.cells.lookup y.1=some c:=fun y hy e=>by
   rcases ok.free y hy e with k | k
   . exact I.ok.has _ (.inl k)
   . exact I.ok.has _ (.inr k)
 refine wpAny_comprehension_free (use:=use) rfl hs (zQG hfree) ok.kind (fun y hy e=>by rw [ok.uniq y hy,e])
   (thn (hi pins s Z H _ I h) fun xv s1 hx=>thn hx fun itv s2 h2=>?_)
 obtain ⟨it,fp,tn,J,H2,e,I2,T,st2,f2,q⟩:=h2;subst e;refine wpAny_newObj_type (zNl ?_) (by show 0<=sizeLine;decide);generalize hD:s2.heap.objs.size=D;have hDn:H2 D=none:=I2.hok.fresh (Nat.le_of_eq hD);obtain ⟨W,⟨m0,w0⟩,turn⟩:=q D hDn;generalize hs3:({ s2 with heap:=s2.heap.push { cls:=.type "list",data:=.seq ([]:List Value).toArray } }:Shared)=s3;have I3:Inv X pins Z (upd H2 D (.lst [])) s3:=by rw [<- hs3];refine I2.laid (t':=s2.toks) (fun b o e=>Heap.get?_push_of_some _ e) (Nat.le_of_eq hD) ⟨Nat.zero_le _,[],0,.nil,?_⟩;rw [<- hD];exact Heap.get?_push_size _ rfl
 have h3:s3.heap=s2.heap.push { cls:=.type "list",data:=.seq ([]:List Value).toArray }:=(by rw [<- hs3]);have sz:∀ b∈fp,b < s2.heap.objs.size:=fun b hb=>by obtain ⟨o,e,_⟩:=T.obj _ _ st2 b hb;exact Heap.lt_size e
 have f3:∀ b∈fp,zRF X pins (upd H2 D (.lst [])) b/\b < s3.heap.objs.size:=fun b hb=>by have hlt:=sz b hb;refine ⟨⟨?_,(f2 b hb).2⟩,by rw [h3,Heap.size_push];exact Nat.lt_succ_of_lt hlt⟩;rw [zF (by rw [<- hD];exact Nat.ne_of_lt hlt)];exact (f2 b hb).1
 have st3:tn 0 s3.heap:=T.keep _ _ _ st2 fun b _ o e=>by rw [h3];exact Heap.get?_push_of_some _ e
 have I4:=zNm I3 ok hN f3;have pg:=hg s3 (upd H2 D (.lst [])) s3.heap.objs.size (cellsFrom (s3.heap.objs.size+1) scope.names (jF X.env.cells scope.names [])) fp;have pt:=ht s3 (upd H2 D (.lst [])) s3.heap.objs.size (cellsFrom (s3.heap.objs.size+1) scope.names (jF X.env.cells scope.names [])) fp;have pe:=he s3 (upd H2 D (.lst [])) s3.heap.objs.size (cellsFrom (s3.heap.objs.size+1) scope.names (jF X.env.cells scope.names [])) fp;show codeAny _ _ (.compStart (.ListComp elt [⟨tg,iter,ifs,0⟩] scope pos) 0 (.ref it) (.ref D) (compEnvC scope (cellsFrom (s3.heap.objs.size+1) scope.names (jF X.env.cells scope.names [])) s3.heap.objs.size X.env)) (compPost (model X.prog X.w) X.A X.xe use Qf (.ref D) s3.heap.objs.size) { s3 with heap:=pushCells (s3.heap.push { cls:=.type "dict",data:=.dict #[] }) scope.names };have nfp:∀ b∈fp,(upd H2 D (.lst [])) b=none:=fun b hb=>(f3 b hb).1.1;generalize hce:compEnvC scope (cellsFrom (s3.heap.objs.size+1) scope.names (jF X.env.cells scope.names [])) s3.heap.objs.size X.env=ce at I4 pg pt pe ⊢;have cL:ce.locals=s3.heap.objs.size:=by subst hce;rfl
 generalize hH3:upd H2 D (.lst [])=H3 at I3 I4 pg pt pe w0 nfp f3;generalize hs4:({ s3 with heap:=pushCells (s3.heap.push { cls:=.type "dict",data:=.dict #[] }) scope.names }:Shared)=s4 at I4 ⊢;have st4:tn 0 s4.heap:=T.keep _ _ _ st3 fun b _ o e=>by rw [<- hs4];exact pushCells_keeps _ _ _ _ (Heap.get?_push_of_some _ e)
 have stat:∀ {Z' : St}{H' : Hp}{s' : Shared},Inv (X.blk s3 H3 scope ce fp) [] Z' H' s'->(∀ b∈fp,H' b=none)->∀ b∈fp,zRF (X.blk s3 H3 scope ce fp) [] H' b:=fun {Z' H' s'} I' hn b hb =>
   ⟨hn b hb,(I'.ok.exf b hb).1,I'.ok.exfs b hb,.inl hb,fun x c e=>(I'.ok.exf b hb).2 x c e,fun p hp=>absurd (show p∈([]:Y2) ++ [] from hp) (by simp)⟩
 have loop:codeAny (model X.prog X.w) X.A (.compLoop (.ListComp elt [⟨tg,iter,ifs,0⟩] scope pos) 0 (.ref it) (.ref D) ce) (compPost (model X.prog X.w) X.A X.xe use Qf (.ref D) s3.heap.objs.size) s4:=by
   refine zMb (fun n s'=>∃ i H',Inv (X.blk s3 H3 scope ce fp) [] (wipe Z (own.map (·.2))) H' s'/\tn i s'.heap/\(∀ b∈fp,H' b=none)/\W i n H') ?_ m0 ⟨0,H3,I4,st4,nfp,w0⟩;rintro n s5 ⟨i,H5,I5,st5,n5,w5⟩;rcases turn i n H5 w5 with ⟨stop,qq⟩ | ⟨go,Nx,hNx,step⟩
   . have td:=T.done (X.blk s3 H3 scope ce fp) rfl rfl rfl hc i [] s5 _ H5 (fun _ _=>False) I5 (stat I5 n5) st5 stop;refine zWl td ?_;rintro r s6 ⟨hr,I6⟩;subst hr;have I7:Inv X pins Z H5 s6:=I3.zVS (ch:=fp) I6.os I6.base I6.hok I6.bare fun b hb=>⟨(f3 b hb).1.2.2.2.1,(f3 b hb).1.2.1,(f3 b hb).1.2.2.2.2.1,(f3 b hb).1.2.2.2.2.2⟩;have nC:H5 s3.heap.objs.size=none:=by
       have z:H5 ce.locals=none:=I6.free;rw [cL] at z;exact z
     obtain ⟨m,hn,_⟩:=I6.loc;have hn:s6.heap.Ns ce.locals m:=hn;rw [cL] at hn;exact hRR D s3.heap.objs.size s6 m H5 I7 qq hn (I3.zUh (Nat.le_refl _) nC)
   . have ti:=T.item (X.blk s3 H3 scope ce fp) rfl rfl rfl hc i [] s5 _ H5 (fun _ _=>False) I5 (stat I5 n5) st5 go;refine zWl ti ?_;rintro r s6 ⟨u,hr,h6⟩;subst hr;refine zWl h6 ?_;rintro _ s7 ⟨x,H7,I7,r7,y7,st7,n7⟩;have I7':=I7.pinned (stat I7 n7) (T.obj _ _ st7);refine zWl (pg _ s7 _ H7 x u _ I7' r7 (step x H7 y7)) ?_;rintro _ s8 ⟨σ8,H8,I8,hw8,q8⟩;refine zWl (pt _ s8 σ8 H8 _ I8 q8) ?_;rintro b s9 ⟨H9,I9,q9⟩;have fin:∀ {s' : Shared}{H' : Hp},Inv (X.blk s3 H3 scope ce fp) ([] ++ zMR fp s7.heap) σ8 H' s'->Nx H'->∃ m,m < n/\∃ i H',Inv (X.blk s3 H3 scope ce fp) [] (wipe Z (own.map (·.2))) H' s'/\tn i s'.heap/\(∀ b∈fp,H' b=none)/\W i m H':=fun {s' H'} I' nx=>by
       obtain ⟨m',hm,w'⟩:=hNx H' nx;have pin' : ∀ b∈fp,∀ o,s7.heap.get? b=some o->s'.heap.get? b=some o/\H' b=none:=fun b hb o e =>
         let z:=I'.pin (b,o) (List.mem_append_right _ (List.mem_append_right _ (zGh hb e)))
         ⟨z.1,z.2.1⟩
       have hl:(wipe Z (own.map (·.2))).length=σ8.length:=(by rw [<- hw8,zFR]);refine ⟨m',hm,i+1,H',(I'.zHm (pins:=[])).weak hl (fun j v e=>?_),T.keep _ _ _ st7 fun b hb o e=>(pin' b hb o e).1,fun b hb=>?_,w'⟩
       . rw [<- hw8] at e;exact (zIC e).1
       . obtain ⟨o,e,_⟩:=T.obj _ _ st7 b hb;exact (pin' b hb o e).2
     cases b with
     | false =>simp only [Bool.false_eq_true,if_false] at q9 ⊢;exact fin I9 q9
     | true =>simp only [if_true] at q9 ⊢;refine zWl (pe _ s9 σ8 H9 _ I9 q9) ?_;rintro z s10 ⟨yv,H10,I10,r10,acc,hD10,hz10,nx⟩;exact zXJ (X:=X.blk s3 H3 scope ce fp) I10 hD10 hz10 r10 fun s11 I11=>fin I11 nx
 exact codeAny_compStart_list loop (T.self X.A 0 _ _ _ st4 loop)
theorem zRc {elt tg iter:Expr}{ifs:List Expr}{scope:Scope}{own:List (Str×Nat)}{pos:Pos}{wi:TI}{g:TG}{tt:TT}{te:TE}(hc:X.calm=true)(hN:X.N.Nodup)(hi:PI X tg iter wi)(ok:zTg X.N X.env.scope scope own)(hg:∀ (s:Shared) (H:Hp) (C:Addr) (cl:List (Str×Addr)) (fp:List Addr),PG (X.blk s H scope (compEnvC scope cl C X.env) fp) tg g)(ht:∀ (s:Shared) (H:Hp) (C:Addr) (cl:List (Str×Addr)) (fp:List Addr),PTs (X.blk s H scope (compEnvC scope cl C X.env) fp) ifs tt)(he:∀ (s:Shared) (H:Hp) (C:Addr) (cl:List (Str×Addr)) (fp:List Addr),PE (X.blk s H scope (compEnvC scope cl C X.env) fp) elt te)(hs:∀ x,foldedSetIterable iter X.env x=pure x:=by intro _;rfl) : PE X (.ListComp elt [⟨tg,iter,ifs,0⟩] scope pos) (tLc wi g tt te (own.map (·.2))):=by intro pins s Z H Q I h;rw [eval_ListComp];refine zRb hc hN I hi ok hg ht he hs h fun D C s' m H' I' q hn f=>⟨m,hn,fun h'' sb=>?_⟩;obtain ⟨f0,f1,f2,f3,f4,f5⟩:=f;exact ⟨.ref D,H',I'.turned (t':=s'.toks) (fun b o hb e=>(sb.2 b hb).trans e) f0 f1 f3 f4 f5,rfl,q⟩
theorem zTi {i:Nat}{y:Str}{py:Pos}{elt tg iter:Expr}{ifs:List Expr}{scope:Scope}{own:List (Str×Nat)}{pos spos:Pos}{wi:TI}{g:TG}{tt:TT}{te:TE}(hc:X.calm=true)(hN:X.N.Nodup)(hy:X.N[i]? = some y)(hyl:X.env.scope.names.lookup y=some .local)(hsw:swapsWith (.ListComp elt [⟨tg,iter,ifs,0⟩] scope pos) (some (.Name y py)) spos.line X.env=pure true)(hi:PI X tg iter wi)(ok:zTg X.N X.env.scope scope own)(hg:∀ (s:Shared) (H:Hp) (C:Addr) (cl:List (Str×Addr)) (fp:List Addr),PG (X.blk s H scope (compEnvC scope cl C X.env) fp) tg g)(ht:∀ (s:Shared) (H:Hp) (C:Addr) (cl:List (Str×Addr)) (fp:List Addr),PTs (X.blk s H scope (compEnvC scope cl C X.env) fp) ifs tt)(he:∀ (s:Shared) (H:Hp) (C:Addr) (cl:List (Str×Addr)) (fp:List Addr),PE (X.blk s H scope (compEnvC scope cl C X.env) fp) elt te)(hs:∀ x,foldedSetIterable iter X.env x=pure x:=by intro _;rfl) : PS X (.Assign [.Name y py] (.ListComp elt [⟨tg,iter,ifs,0⟩] scope pos) spos) (zVW (tLc wi g tt te (own.map (·.2))) (zE9 i)):=by
 intro pins s Z H D I h;rw [exec_Assign_Name_used _ _ _ _ hsw];refine wpAny_bind (wpAny_standAt (wpAny_bind ?_));show wpAny _ X.A (do let _ <- comprehension (.ListComp elt [⟨tg,iter,ifs,0⟩] scope pos) scope X.env (firstIterPos [⟨tg,iter,ifs,0⟩] pos) (newList []) false (eval iter X.env) (some (assign (.Name y py) X.env))) _ _ s;have h:tLc wi g tt te (own.map (·.2)) Z H (fun x H1=>zE9 i x Z H1 D.nx):=h;refine wpAny_bind (thn (zRb (Qf:=fun _ s'=>SP X pins D .next s') hc hN I hi ok hg ht he hs h fun L C s' m H' I' q hn f=>?_) fun _ s' hq=>wpAny_pure (wpAny_pure hq));show wpAny _ _ (assign (.Name y py) X.env (.ref L)) _ _ _;refine wpAny_assign_Name (zMN (v:=V.ref L) I' hN hy (.inl hyl) rfl (fun s2 I2 ⟨a,sb,ha⟩=>?_) (.inr hyl));obtain ⟨f0,f1,f2,f3,f4,f5⟩:=f;have haC:C≠a:=by
   rcases ha with z | z
   . rw [z];exact f1
   . exact fun e=>f4 y a z e.symm
 refine ⟨m,hn.sameBut sb haC,fun h3 sb3=>?_⟩;exact ⟨_,H',I2.turned (t':=s2.toks) (fun b o hb e=>(sb3.2 b hb).trans e) f0 f1 f3 f4 f5,q⟩
end
section
variable {prog:Program}{w:World}{A:Around}{R:Result->Shared->Prop}{s:Shared}{elt t0 i0 t1 i1:Expr}{ifs0 ifs1:List Expr}{scope:Scope}{pos:Pos}{it acc:Value}{env:Env}
end
section
variable {X:Cx}
end
section
variable {κ:Type} [DecidableEq κ]
def zFy (kvs:List (κ×V))(k:κ):Option V:=(kvs.find? fun kv=>decide (kv.1=k)).map (·.2)
def putK (kvs:List (κ×V))(k:κ)(v:V):List (κ×V) :=
 if (kvs.any fun kv=>decide (kv.1=k))=true then kvs.map (fun kv=>if kv.1=k then (kv.1,v) else kv) else kvs ++ [(k,v)]
theorem zK5 {p:κ×V}{r:List (κ×V)}{k:κ}(e:p.1=k):zFy (p :: r) k=some p.2:=by simp [zFy,List.find?_cons,e]
theorem zK6 {p:κ×V}{r:List (κ×V)}{k:κ}(e:¬ p.1=k):zFy (p :: r) k=zFy r k:=by simp [zFy,List.find?_cons,e]
theorem zOz (k:κ):∀ kvs:List (κ×V),(kvs.any fun kv=>decide (kv.1=k))=(zFy kvs k).isSome
 | []=>rfl
 | p :: r=>by
   rw [List.any_cons];by_cases e:p.1=k
   . simp only [zK5 e,decide_eq_true e,Bool.true_or,Option.isSome_some]
   . rw [zK6 e,decide_eq_false e,Bool.false_or];exact zOz k r
theorem zFS (kvs:List (κ×V))(k:κ)(v:V):(putK kvs k v).length<=kvs.length+1:=by
 unfold putK;split
 . rw [List.length_map];omega
 . rw [List.length_append,List.length_cons,List.length_nil];omega
theorem zKq.zID {o:Option V}{u:Option Value}(r:zKq o u):o.isSome=u.isSome:=by
 cases o with
 | none=>cases u with
   | none=>rfl
   | some _=>exact (show False from r).elim
 | some _=>cases u with
   | none=>exact (show False from r).elim
   | some _=>rfl
theorem zKq.getD {o:Option V}{u:Option Value}{d:V}{d' : Value}(r:zKq o u)(rd:RelV d d'):RelV (o.getD d) (u.getD d'):=by
 cases o with
 | none=>cases u with
   | none=>exact rd
   | some _=>exact (show False from r).elim
 | some _=>cases u with
   | none=>exact (show False from r).elim
   | some _=>exact r
theorem KV.val {kvs:List (κ×V)}{vs:List (κ×Value)}(r:KV kvs vs)(k:κ):zKq (zFy kvs k) (valueAt vs k):=by
 unfold KV at r
 induction r with
 | nil=>exact True.intro
 | @cons p q ps qs h t ih =>
   obtain ⟨h1,h2⟩:=h;by_cases e:p.1=k
   . have e' : q.1=k:=h1.symm.trans e;have b:valueAt (q :: qs) k=some q.2:=(by simp [valueAt,List.find?_cons,e']);rw [zK5 e,b];exact h2
   . have e' : ¬ q.1=k:=fun z=>e (h1.trans z);have b:valueAt (q :: qs) k=valueAt qs k:=(by simp [valueAt,List.find?_cons,e']);rw [zK6 e,b];exact ih
theorem KV.any {kvs:List (κ×V)}{vs:List (κ×Value)}(r:KV kvs vs)(k:κ):(kvs.any fun kv=>decide (kv.1=k))=vs.any fun kv=>decide (kv.1=k):=by
 unfold KV at r
 induction r with
 | nil=>rfl
 | cons h t ih=>rw [List.any_cons,List.any_cons,ih,h.1]
theorem KV.zYY {kvs:List (κ×V)}{vs:List (κ×Value)}(r:KV kvs vs)(k:κ){y:V}{u:Value}(ry:RelV y u) : KV (kvs.map fun kv=>if kv.1=k then (kv.1,y) else kv) (vs.map fun kv=>if kv.1=k then (kv.1,u) else kv):=by
 unfold KV at r ⊢
 induction r with
 | nil=>exact .nil
 | @cons p q ps qs h t ih =>
   rw [List.map_cons,List.map_cons];refine .cons ?_ ih;obtain ⟨h1,h2⟩:=h;by_cases e:p.1=k
   . rw [if_pos e,if_pos (h1.symm.trans e)];exact ⟨h1,ry⟩
   . rw [if_neg e,if_neg (fun z=>e (h1.trans z))];exact ⟨h1,h2⟩
theorem KV.put {kvs:List (κ×V)}{vs:List (κ×Value)}(r:KV kvs vs)(k:κ){y:V}{u:Value}(ry:RelV y u):KV (putK kvs k y) (stored vs k u):=by
 unfold putK stored;rw [r.any k];by_cases e:(vs.any fun kv=>decide (kv.1=k))=true
 . rw [if_pos e,if_pos e];exact r.zYY k ry
 . rw [if_neg e,if_neg e];exact Paired.snoc r ⟨rfl,ry⟩
theorem KV.length {kvs:List (κ×V)}{vs:List (κ×Value)}(r:KV kvs vs):kvs.length=vs.length:=Paired.length r
end
theorem zNn {P:Program}{w:World}{k:Key}{u:Value}(r:RelV (kV k) u):(z4 P w).is k u=true:=by
 cases k with
 | inl i=>obtain ⟨t,e⟩:=(show ∃ t,u=Value.int i t from r);subst e;exact zHy P w i t
 | inr x=>obtain ⟨t,e⟩:=(show ∃ t,u=Value.str x t from r);subst e;exact zNZ P w x t
theorem zIE {P:Program}{w:World}:∀ {ks:List Key}{us:List Value},Vals (ks.map kV) us->ItemsAre (z4 P w) ks us
 | [],_,r=>by rw [List.map_nil] at r;cases r;exact .nil
 | k :: ks,_,r=>by
   rw [List.map_cons] at r;cases r with
   | cons h t=>exact .cons (zNn h) (zIE t)
abbrev KT (H:Hp):List (List Key×V)->List (List Key×Addr×Value)->Prop:=Paired fun p q=>p.1=q.1/\H q.2.1=some (.tup (p.1.map kV))/\RelV p.2 q.2.2
theorem KT.val {H:Hp}{kvs:List (List Key×V)}{xs:List (List Key×Addr×Value)}(r:KT H kvs xs)(k:List Key):zKq (zFy kvs k) ((atKey xs k).map (·.2)):=by
 induction r with
 | nil=>exact True.intro
 | @cons p q ps qs h t ih =>
   obtain ⟨h1,_,h2⟩:=h;by_cases e:p.1=k
   . have e' : q.1=k:=h1.symm.trans e;have b:atKey (q :: qs) k=some q.2:=(by simp [atKey,List.find?_cons,e']);rw [zK5 e,b];exact h2
   . have e' : ¬ q.1=k:=fun z=>e (h1.trans z);have b:atKey (q :: qs) k=atKey qs k:=(by simp [atKey,List.find?_cons,e']);rw [zK6 e,b];exact ih
theorem KT.zYY {H:Hp}{kvs:List (List Key×V)}{xs:List (List Key×Addr×Value)}(r:KT H kvs xs)(k:List Key){y:V}{u:Value}(ry:RelV y u) : KT H (kvs.map fun kv=>if kv.1=k then (kv.1,y) else kv) (xs.map (putAt k u)):=by
 induction r with
 | nil=>exact .nil
 | @cons p q ps qs h t ih =>
   rw [List.map_cons,List.map_cons];refine .cons ?_ ih;obtain ⟨h1,h2,h3⟩:=h;unfold putAt;by_cases e:p.1=k
   . rw [if_pos e,if_pos (h1.symm.trans e)];exact ⟨h1,h2,ry⟩
   . rw [if_neg e,if_neg (fun z=>e (h1.trans z))];exact ⟨h1,h2,h3⟩
theorem KT.put {H:Hp}{kvs:List (List Key×V)}{xs:List (List Key×Addr×Value)}(r:KT H kvs xs)(k:List Key){b:Addr}{y:V}{u:Value}(hb:H b=some (.tup (k.map kV)))(ry:RelV y u) : KT H (putK kvs k y) (storedH xs k b u):=by
 have e:(kvs.any fun kv=>decide (kv.1=k))=(atKey xs k).isSome:=by rw [zOz,(r.val k).zID,Option.isSome_map]
 unfold putK storedH;rw [e];by_cases q:(atKey xs k).isSome=true
 . rw [if_pos q,if_pos q];exact r.zYY k ry
 . rw [if_neg q,if_neg q];exact Paired.snoc r ⟨rfl,hb,ry⟩
theorem KT.keeps {H H' : Hp}{kvs:List (List Key×V)}{xs:List (List Key×Addr×Value)}(r:KT H kvs xs)(ht:∀ b ys,H b=some (.tup ys)->H' b=some (.tup ys)):KT H' kvs xs :=
 Paired.zFH r fun _ _ z=>⟨z.1,ht _ _ z.2.1,z.2.2⟩
section
variable {P:Program}{w:World}{H:Hp}{h:Heap}{a:Addr}
theorem zXK {u:HO}(ok:HOk P w H h)(e:Rd H a u):jj P w H h a u:=e.ok ok
theorem zQH {kvs:List (Key×V)}(ok:HOk P w H h)(e:Rd H a (.dK kvs)):kvs.length<=sizeLine/\(a == sysModules)=false/\∃ vs,KV kvs vs/\h.DictOf (z4 P w) a vs :=
 show jj P w H h a (.dK kvs) from zXK ok e
theorem zXL {kvs:List (Key×V)}(ok:HOk P w H h)(e:H a=some (.dK kvs)):kvs.length<=sizeLine/\(a == sysModules)=false/\∃ vs,KV kvs vs/\h.DictOf (z4 P w) a vs:=zQH ok (.inl e)
theorem zMc {ks:List Key}(ok:HOk P w H h)(e:H a=some (.tup (ks.map kV))):(tupleKind (z4 P w)).is h ks a:=by obtain ⟨_,its,r,o,h1,h2,n,h3⟩:=(show jj P w H h a (.tup (ks.map kV)) from ok a _ e);exact ⟨o,its.toArray,n,h1,h2,h3,by simpa using zIE r⟩
theorem zQI {kvs:List (List Key×V)}(ok:HOk P w H h)(e:Rd H a (.dT kvs)):kvs.length<=sizeLine/\(a == sysModules)=false/\ ∃ xs,KT H kvs xs/\h.DictOfH (tupleKind (z4 P w)) a xs:=by
 obtain ⟨z,y,xs,r,o,es,ep,h1,h2,h3,h4,h5⟩:=(show jj P w H h a (.dT kvs) from zXK ok e);refine ⟨z,y,xs,r,o,es,ep,h1,h2,h3,h4,fun x hx=>?_,h5⟩;have all:∀ {l:List (List Key×V)}{m:List (List Key×Addr×Value)},KT H l m->∀ x∈m,(tupleKind (z4 P w)).is h x.1 x.2.1:=by
   intro l m q
   induction q with
   | nil=>intro x hx;exact nomatch hx
   | @cons p q ps qs hq t ih =>
     intro x hx;rcases List.mem_cons.mp hx with e | hx
     . subst e;exact zMc ok (by rw [<- hq.1];exact hq.2.1)
     . exact ih x hx
 exact all r x hx
theorem zYZ {kvs:List (List Key×V)}(ok:HOk P w H h)(e:H a=some (.dT kvs)):kvs.length<=sizeLine/\(a == sysModules)=false/\ ∃ xs,KT H kvs xs/\h.DictOfH (tupleKind (z4 P w)) a xs:=zQI ok (.inl e)
end
def zK7 (H:Hp)(a:Addr)(y:V)(r:Option V):Prop :=
 (∃ kvs k,Rd H a (.dK kvs)/\y=kV k/\r=zFy kvs k)\/∃ kvs k b,Rd H a (.dT kvs)/\y=.ref b/\H b=some (.tup (k.map kV))/\r=zFy kvs k
def zTj (H:Hp)(a:Addr)(y v:V)(H' : Hp):Prop :=
 (∃ kvs k,H a=some (.dK kvs)/\y=kV k/\kvs.length < sizeLine/\H' = upd H a (.dK (putK kvs k v)))\/
 ∃ kvs k b,H a=some (.dT kvs)/\y=.ref b/\H b=some (.tup (k.map kV))/\kvs.length < sizeLine/\H' = upd H a (.dT (putK kvs k v))
theorem zK7.k {H:Hp}{a:Addr}{kvs:List (Key×V)}{k:Key}(e:H a=some (.dK kvs)):zK7 H a (kV k) (zFy kvs k):=.inl ⟨kvs,k,.inl e,rfl,rfl⟩
theorem zTj.k {H:Hp}{a:Addr}{kvs:List (Key×V)}{k:Key}{v:V}(e:H a=some (.dK kvs))(hl:kvs.length < sizeLine):zTj H a (kV k) v (upd H a (.dK (putK kvs k v))):=.inl ⟨kvs,k,e,rfl,hl,rfl⟩
section
variable {X:Cx}{pins:Y2}{Z:St}{H:Hp}{s:Shared}{a:Addr}{y v:V}{u r:Value}{o:Option V}{A:Around}{E:Y1}
theorem Inv.big (I:Inv X pins Z H s):sysModules < s.heap.objs.size:=by have h:mainGlobals < s.heap.objs.size:=(I.mod.glob.keeps I.bk).lt;exact Nat.lt_trans (by decide) h
theorem zRd {Q:Y1}(hu:A.units+1 < cLine)(I:Inv X pins Z H s)(g:zK7 H a y (some v))(ry:RelV y u)(h:∀ w' s',Inv X pins Z H s'->RelV v w'->Q w' s') : wpAny (model X.prog X.w) A (getItem (.ref a) u) Q E s:=by
 rcases g with ⟨kvs,k,e,ey,l⟩ | ⟨kvs,k,b,e,ey,eb,l⟩
 . subst ey;obtain ⟨z,hd,vs,rel,dd⟩:=zQH I.hok e;obtain ⟨w',hw,rw'⟩:=zKq.some_of (v:=v) (o:=valueAt vs k) (by rw [l];exact rel.val k);exact wpAny_getItem_of (zNn ry) dd.mapOf hw (h w' _ (I.tok _) rw')
 . subst ey;cases (show u=Value.ref b from ry);obtain ⟨z,hd,xs,rel,dd⟩:=zQI I.hok e;obtain ⟨w',hw,rw'⟩:=zKq.some_of (v:=v) (o:=(atKey xs k).map (·.2)) (by rw [l];exact rel.val k);obtain ⟨p,hp,hp2⟩:=Option.map_eq_some_iff.mp hw;refine wpAny_getItem_heap (tupleKind_room_in1 hu) (zMc I.hok eb) dd hp ?_;rw [hp2];exact h w' _ (I.tok _) rw'
theorem zZT {Q:Y1}(hu:A.units+1 < cLine)(I:Inv X pins Z H s)(g:zK7 H a y o)(ry:RelV y u)(h:∀ s',Inv X pins Z H s'->Q (.bool o.isSome) s') : wpAny (model X.prog X.w) A (compareOp .In u (.ref a)) Q E s:=by
 rcases g with ⟨kvs,k,e,ey,l⟩ | ⟨kvs,k,b,e,ey,eb,l⟩
 . subst ey;obtain ⟨z,hd,vs,rel,dd⟩:=zQH I.hok e;refine wpAny_in_of (zNn ry) hd dd.mapOf ?_;rw [<- (rel.val k).zID,<- l];exact h _ (I.tok _)
 . subst ey;cases (show u=Value.ref b from ry);obtain ⟨z,hd,xs,rel,dd⟩:=zQI I.hok e;refine wpAny_in_heap (tupleKind_room_in1 hu) (zMc I.hok eb) hd dd ?_;have q:=(rel.val k).zID;rw [Option.isSome_map] at q;rw [<- q,<- l];exact h _ (I.tok _)
theorem zK8 {h' : Heap}{t' : Nat}{ob:HO}(I:Inv X pins Z H s)(mu:Mut (H a))(hs:Heap.SameBut a s.heap h')(he:∃ q,h'.get? a=some q)(new:jj X.prog X.w (upd H a ob) h' a ob) : Inv X pins Z (upd H a ob) { s with heap:=h',toks:=t' } :=
 I.write (x:=a) (e:=a) mu (.inl rfl) (fun b q hb z=>(hs.2 b hb).trans z) he new
theorem zUr {P:Program}{w:World}{H' : Hp}{h' : Heap}{kvs:List (Key×V)}{vs:List (Key×Value)}(z:kvs.length<=sizeLine)(hd:(a == sysModules)=false)(rel:KV kvs vs)(dd:h'.DictOf (z4 P w) a vs) : jj P w H' h' a (.dK kvs):=⟨z,hd,vs,rel,dd⟩
theorem zRe {H' : Hp}{Q:Unit->Shared->Prop}(hu:A.units+1 < cLine)(I:Inv X pins Z H s)(g:zTj H a y v H')(ry:RelV y u)(rv:RelV v r)(h:∀ s',Inv X pins Z H' s'->Q () s') : wpAny (model X.prog X.w) A (setItem (.ref a) u r) Q E s:=by
 rcases g with ⟨kvs,k,e,ey,l,eH⟩ | ⟨kvs,k,b,e,ey,eb,l,eH⟩
 . subst ey eH;obtain ⟨z,hd,vs,rel,dd⟩:=zXL I.hok e;have hz:vs.length<=sizeLine:=by rw [<- rel.length];exact z
   have hl:(putK kvs k v).length<=sizeLine:=by have:=zFS kvs k v;omega
   refine wpAny_setItem_pairs (hsz:=hz) (zNn ry) dd fun h' dd' hs=>h _ ?_;have he:∃ q,h'.get? a=some q:=let ⟨q,_,_,hq,_⟩:=dd';⟨q,hq⟩;exact zK8 I (by rw [e];exact True.intro) hs he (zUr hl hd (rel.put k rv) dd')
 . subst ey eH;cases (show u=Value.ref b from ry);obtain ⟨z,hd,xs,rel,dd⟩:=zYZ I.hok e;have hz:xs.length<=sizeLine:=by rw [<- Paired.length rel];exact z
   have hl:(putK kvs k v).length<=sizeLine:=by have:=zFS kvs k v;omega
   refine wpAny_setItem_heap (hsz:=hz) (tupleKind_room_in1 hu) (zMc I.hok eb) dd fun h' dd' hs=>h _ ?_;obtain ⟨q,es,ep,hq,h2,h3,h4,_,h5⟩:=dd';refine zK8 I (by rw [e];exact True.intro) hs ⟨q,hq⟩ ⟨hl,hd,_,(rel.put k eb rv).keeps fun c ys ec=>?_,q,es,ep,hq,h2,h3,h4,h5⟩;rw [zF (zVQ ec e (fun z=>nomatch z))];exact ec
end
section
variable {X:Cx}{pins:Y2}{Z:St}{H:Hp}{s:Shared}{a:Addr}{kvs:List (Key×V)}{k:Key}{u:Value}{A:Around}{E:Y1}
end
def zYI (i:Expr):Prop:=∀ ov iv,subscripted i false ov iv=operate [ov,iv] (getItem ov iv)
theorem zNo {prog:Program}{w:World}{A:Around}{E:Y1}{s:Shared}{env:Env}{value slice:Expr}{pos:Pos}{T id:String}{Q:Y1}(hl:typeLookup (.type T) "__getitem__" = pure (some (.builtin id)))(hs:zYI slice)(h:wpAny (model prog w) A (eval value env) (fun o s₁=>wpAny (model prog w) A (eval slice env) (fun i s₂=>s₂.TypeIs o T/\wpAny (model prog w) A (getItem o i) Q E s₂) E s₁) E s) : wpAny (model prog w) A (eval (.Subscript value slice pos) env) Q E s:=by
 refine Subscript_ (wpAny_mono h (fun o s₁ h₁=>wpAny_mono h₁ (fun i s₂ h₂=>?_) fun _ _ x=>x) fun _ _ x=>x);obtain ⟨hT,h₂⟩:=h₂;unfold subscriptTail;refine wpAny_bind ?_;rw [getitemInPython_of_ne hT.not_modules];refine wpAny_bind (wpAny_specialOf hT hl ?_);have fin:wpAny (model prog w) A (subscripted slice false o i) (fun r s₃=>wpAny (model prog w) A (letTemporaryGo value o r >>= fun _=>pure r) Q E s₃) E s₂:=by rw [hs o i];exact wpAny_operating (wpAny_mono h₂ (fun r s₃ h₃=>wpAny_bind (wpAny_letTemporaryGo (wpAny_pure h₃))) fun _ _ x=>x)
 first
   | exact wpAny_pure (wpAny_bind fin)
   | exact wpAny_bind (wpAny_pure (wpAny_bind fin))
   | exact wpAny_bind fin
theorem zNp {X:Cx}{pins:Y2}{Z:St}{H:Hp}{s:Shared}{a:Addr}{y:V}{o:Option V}(I:Inv X pins Z H s)(g:zK7 H a y o):s.TypeIs (.ref a) "dict":=by
 rcases g with ⟨kvs,k,e,_,_⟩ | ⟨kvs,k,b,e,_,_,_⟩
 . obtain ⟨_,_,vs,_,dd⟩:=zQH I.hok e;exact dd.typeIs
 . obtain ⟨_,_,xs,_,dd⟩:=zQI I.hok e;exact dd.typeIs
def zVe (td ty:TE):TE:=fun Z H Q=>td Z H fun x H1=>ty Z H1 fun y H2=>∃ a v,x=.ref a/\zK7 H2 a y (some v)/\Q v H2
def zYa (ty td:TE):TE:=fun Z H Q=>ty Z H fun y H1=>td Z H1 fun x H2=>∃ a o,x=.ref a/\zK7 H2 a y o/\Q (.bl o.isSome) H2
def zRf (ty td:TE):TE:=fun Z H Q=>ty Z H fun y H1=>td Z H1 fun x H2=>∃ a o,x=.ref a/\zK7 H2 a y o/\Q (.bl (!o.isSome)) H2
def zVf (td ty tv:TE):TS:=fun D Z H=>tv Z H fun v H1=>td Z H1 fun x H2=>ty Z H2 fun y H3=>∃ a H4,x=.ref a/\zTj H3 a y v H4/\D.nx Z H4
section
variable {X:Cx}{o i e value:Expr}{pos pos' tpos:Pos}{td ty tv:TE}
theorem zDq (hu:X.A.units+1 < cLine)(ho:PE X o td)(hi:PE X i ty)(hs:zYI i):PE X (.Subscript o i pos) (zVe td ty):=by intro pins s Z H Q I h;refine zNo PySem.F.slot_dict_getitem.lookup hs (thn (ho pins s Z H _ I h) fun u s1 ⟨x,H1,I1,rx,q1⟩=>thn (hi pins s1 Z H1 _ I1 q1) fun iv s2 ⟨y,H2,I2,ry,a,v,ex,g,q2⟩=>?_);subst ex;obtain rfl:u=Value.ref a:=rx;exact ⟨zNp I2 g,zRd hu I2 g ry fun w' s3 I3 rw'=>⟨v,H2,I3,rw',q2⟩⟩
theorem zUs (hu:X.A.units+1 < cLine)(hi:PE X i ty)(ho:PE X o td):PC X .In i o (zYa ty td):=by intro pins s Z H Q I h;refine thn (hi pins s Z H _ I h) fun iv s1 ⟨y,H1,I1,ry,q1⟩=>thn (ho pins s1 Z H1 _ I1 q1) ?_;rintro u s2 ⟨x,H2,I2,rx,a,ov,ex,g,q2⟩;subst ex;obtain rfl:u=Value.ref a:=rx;exact zZT hu I2 g ry fun s3 I3=>⟨.bl ov.isSome,H2,I3,rfl,q2⟩
theorem zGl (hu:X.A.units+1 < cLine)(ho:PE X o td)(hi:PE X i ty)(hv:PE X value tv)(hs:swapsWith value (some (.Subscript o i pos')) pos.line X.env=pure false) : PS X (.Assign [.Subscript o i pos'] value pos) (zVf td ty tv):=by intro pins s Z H D I h;refine wpAny_Assign_Subscript (thn (hv pins s Z H _ I h) fun r s1 ⟨v,H1,I1,rv,q1⟩=>thn (ho pins s1 Z H1 _ I1 q1) fun u s2 ⟨x,H2,I2,rx,q2⟩=>thn (hi pins s2 Z H2 _ I2 q2) fun iv s3 ⟨y,H3,I3,ry,a,H4,ex,g,q3⟩=>?_) hs;subst ex;obtain rfl:u=Value.ref a:=rx;exact zRe hu I3 g ry rv fun s4 I4=>⟨Z,H4,I4,q3⟩
end
theorem zO0 {P:Program}{w:World}{H:Hp}(h:Heap)(hb:sysModules < h.objs.size):jj P w H (h.push { cls:=.type "dict",data:=.dict #[] }) h.objs.size (.dK []) :=
 ⟨Nat.zero_le _,beq_eq_false_iff_ne.mpr (Ne.symm (Nat.ne_of_lt hb)),[],.nil,Heap.DictOf.new h⟩
def zRg:TE:=fun _ H Q=>∀ p,H p=none->Q (.ref p) (upd H p (.dK []))
section
variable {X:Cx}{pos:Pos}
theorem zEn:PE X (.Dict [] [] pos) zRg:=fun pins s Z H Q I h =>
 wpAny_Dict_empty ⟨.ref s.heap.objs.size,_,I.laid (a:=s.heap.objs.size) (o:=.dK []) (t':=s.toks) (fun _ _ q=>Heap.get?_push_of_some _ q) (Nat.le_refl _) (zO0 s.heap I.big),rfl,h _ (I.hok.fresh (Nat.le_refl _))⟩
end
def zO1:List (TE×TE)->St->Hp->(List (V×V)->Hp->Prop)->Prop
 | [],_,H,Q=>Q [] H
 | (tk,tv) :: r,Z,H,Q=>tk Z H fun x H1=>tv Z H1 fun y H2=>zO1 r Z H2 fun ps H3=>Q ((x,y) :: ps) H3
abbrev VV:List (V×V)->List (Value×Value)->Prop:=Paired fun p q=>RelV p.1 q.1/\RelV p.2 q.2
def PPs (X:Cx)(pos:Pos)(keys:List (Option Expr))(values:List Expr)(trs:List (TE×TE)):Prop :=
 ∀ (pins:Y2) (s:Shared) (Z:St) (H:Hp) (Q:List (V×V)->Hp->Prop),Inv X pins Z H s->zO1 trs Z H Q->
   wpAny (model X.prog X.w) X.A (evalPairs (pairTrees keys values X.env pos)) (fun vs s'=>∃ ps H',Inv X pins Z H' s'/\VV ps vs/\Q ps H') X.xe s
theorem zVg {X:Cx}{pos:Pos}:PPs X pos [] [] []:=fun pins s Z H Q I h=>pairTrees_nil_walk ⟨[],H,I,.nil,h⟩
theorem zK9 {X:Cx}{pos:Pos}{k v:Expr}{ks:List (Option Expr)}{vs:List Expr}{tk tv:TE}{trs:List (TE×TE)}(hk:PE X k tk)(hv:PE X v tv)(hr:PPs X pos ks vs trs) : PPs X pos (some k :: ks) (v :: vs) ((tk,tv) :: trs):=fun pins s Z H Q I h =>
 pairTrees_cons_walk (thn (hk pins s Z H _ I h) fun u s1 ⟨x,H1,I1,rx,q1⟩=>thn (hv pins s1 Z H1 _ I1 q1) fun w2 s2 ⟨y,H2,I2,ry,q2⟩ =>
   thn (hr pins s2 Z H2 _ I2 q2) fun ws s3 ⟨ps,H3,I3,rel,q3⟩=>⟨(x,y) :: ps,H3,I3,.cons ⟨rx,ry⟩ rel,q3⟩)
def zKH (kvs more:List (Key×V)):List (Key×V):=more.foldl (fun acc kv=>putK acc kv.1 kv.2) kvs
theorem KV.merge:∀ {more:List (Key×V)}{rs:List (Key×Value)}{kvs:List (Key×V)}{vs:List (Key×Value)},KV more rs->KV kvs vs->KV (zKH kvs more) (merged vs rs):=by
 intro more rs kvs vs r;unfold KV at r
 induction r generalizing kvs vs with
 | nil=>intro q;exact q
 | @cons p q ps qs h t ih =>
   intro r0;have e:KV (putK kvs p.1 p.2) (stored vs q.1 q.2):=by have:=r0.put p.1 h.2;rw [<- h.1];exact this
   exact ih e
theorem zFz:∀ (more kvs:List (Key×V)),(zKH kvs more).length<=kvs.length+more.length
 | [],kvs=>by show kvs.length<=kvs.length+0;omega
 | p :: r,kvs=>by have h1:=zFz r (putK kvs p.1 p.2);have h2:=zFS kvs p.1 p.2;show (zKH (putK kvs p.1 p.2) r).length<=_;rw [List.length_cons];omega
theorem zKI {P:Program}{w:World}:∀ {kvs:List (Key×V)}{ws:List (Value×Value)},VV (kvs.map fun kv=>(kV kv.1,kv.2)) ws->∃ rs,Carries (z4 P w) ws rs/\KV kvs rs
 | [],_,r=>by rw [List.map_nil] at r;cases r;exact ⟨[],True.intro,.nil⟩
 | p :: kvs,_,r=>by
   rw [List.map_cons] at r;cases r with
   | @cons a b as bs h t =>obtain ⟨rs,c,q⟩:=zKI (P:=P) (w:=w) t;obtain ⟨b1,b2⟩:=b;exact ⟨(p.1,b2) :: rs,⟨zNn h.1,rfl,c⟩,.cons ⟨rfl,h.2⟩ q⟩
def zXM (trs:List (TE×TE)):TE:=fun Z H Q=>∀ p,H p=none->zO1 trs Z (upd H p (.dK [])) fun ps H2=>H2 p=some (.dK [])/\∃ kvs:List (Key×V),ps=kvs.map (fun kv=>(kV kv.1,kv.2))/\kvs.length<=15/\Q (.ref p) (upd H2 p (.dK (zKH [] kvs)))
theorem zVh {X:Cx}{pos:Pos}{keys:List (Option Expr)}{values:List Expr}{trs:List (TE×TE)}(h:PPs X pos keys values trs)(hall:keys.all (·.isSome)=true)(hl:keys.length=values.length)(h0:keys≠[])(h15:keys.length<=15):PE X (.Dict keys values pos) (zXM trs):=by
 intro pins s Z H Q I q;have hn:=I.hok.fresh (Nat.le_refl s.heap.objs.size);have I1:=I.laid (a:=s.heap.objs.size) (o:=.dK []) (h':=s.heap.push { cls:=.type "dict",data:=.dict #[] }) (t':=s.toks) (fun _ _ q=>Heap.get?_push_of_some _ q) (Nat.le_refl _) (zO0 s.heap I.big);refine wpAny_Dict_walk (knd:=z4 X.prog X.w) hall hl h0 h15 (thn (h pins _ Z _ _ I1 (q _ hn)) ?_);rintro ws s2 ⟨ps,H2,I2,rel,e,kvs,ep,lk,q2⟩;subst ep;obtain ⟨rs,c,rk⟩:=zKI (P:=X.prog) (w:=X.w) rel;obtain ⟨z,hd,vs0,r0,dd⟩:=zXL I2.hok e;cases r0;refine ⟨rs,c,dd,fun h' dd' hs=>⟨.ref s.heap.objs.size,_,?_,rfl,q2⟩⟩;have hz:(zKH [] kvs).length<=sizeLine:=by have h1:=zFz kvs [];rw [List.length_nil] at h1;rw [sizeLine_eq];omega
 have he:∃ q,h'.get? s.heap.objs.size=some q:=let ⟨q,_,_,hq,_⟩:=dd';⟨q,hq⟩;exact zK8 I2 (by rw [e];exact True.intro) hs he (zUr hz hd (rk.merge .nil) dd')
structure M2 (X:Cx)(o:Expr)(m:Str)(apos:Pos)(e f:Expr)(cpos:Pos):Prop where
 base:attributeBase o m X.env (eval o X.env)=eval o X.env
 few:((backTo cpos (starEach [e,f] X.env)).all (fun x=>!x.1) && (backToKw cpos (keywordEach [] X.env)).all (fun x=>x.1.isSome)
   && decide (([e,f]:List Expr).length+([]:List Keyword).length+(if ([]:List Keyword).isEmpty then 0 else 1) < 30))=true
 line:(apos.endLine == cpos.line)=true
 trees:backTo cpos (starEach [e,f] X.env)=[(false,eval e X.env),(false,eval f X.env)]
def IsD (H:Hp)(a:Addr):Prop:=(∃ kvs,Rd H a (.dK kvs))\/∃ kvs,Rd H a (.dT kvs)
theorem zXN {X:Cx}{pins:Y2}{Z:St}{H:Hp}{s:Shared}{a:Addr}(I:Inv X pins Z H s)(d:IsD H a) : s.TypeIs (.ref a) "dict"/\(∀ b,Value.ref a=.ref b->∃ ob,s.heap.get? b=some ob/\ob.dict=none)/\(a == sysModules)=false:=by
 rcases d with ⟨kvs,e⟩ | ⟨kvs,e⟩
 . obtain ⟨_,hd,vs,_,dd⟩:=zQH I.hok e;refine ⟨dd.typeIs,fun b q=>?_,hd⟩;cases q;obtain ⟨ob,_,_,h1,h2,_⟩:=dd;exact ⟨ob,h1,h2.2.1⟩
 . obtain ⟨_,hd,xs,_,dd⟩:=zQI I.hok e;refine ⟨dd.typeIs,fun b q=>?_,hd⟩;cases q;obtain ⟨ob,_,_,h1,h2,_⟩:=dd;exact ⟨ob,h1,h2.2.1⟩
section
variable {X:Cx}{pins:Y2}{Z:St}{H:Hp}{s:Shared}{a:Addr}{y d:V}{u r:Value}{o:Option V}{A:Around}{E:Y1}
theorem zXO {Q:Y1}(hu:A.units+1 < cLine)(I:Inv X pins Z H s)(g:zK7 H a y o)(ry:RelV y u)(rd:RelV d r)(h:∀ w' s',Inv X pins Z H s'->RelV (o.getD d) w'->Q w' s') : wpAny (model X.prog X.w) A (call (.builtin "dict.get") [.ref a,u,r]) Q E s:=by
 rcases g with ⟨kvs,k,e,ey,l⟩ | ⟨kvs,k,b,e,ey,eb,l⟩
 . subst ey;obtain ⟨z,hd,vs,rel,dd⟩:=zQH I.hok e;refine call_meetsIn PySem.F.slot_dict_get dd.typeIs PySem.F.entry_dict_get (PySem.F.args_dict_get_3 _ _ _) (meets_dict_get_default (z4 X.prog X.w) a (zNn ry) hd r) ⟨_,dd.mapOf,h _ _ (I.tok _) ?_⟩;rw [l];exact (rel.val k).getD rd
 . subst ey;cases (show u=Value.ref b from ry);obtain ⟨z,hd,xs,rel,dd⟩:=zQI I.hok e;refine call_meetsIn PySem.F.slot_dict_get dd.typeIs PySem.F.entry_dict_get (PySem.F.args_dict_get_3 _ _ _) (meetsH_dict_get_default (tupleKind (z4 X.prog X.w)) a b hd r) ⟨tupleKind_room_in1 hu,k,xs,zMc I.hok eb,dd,h _ _ (I.tok _) ?_⟩;rw [l];exact (rel.val k).getD rd
end
def zUt (td ty:TE):TE:=fun Z H Q=>td Z H fun x H1=>∃ a,x=.ref a/\IsD H1 a/\ty Z H1 fun y H2=>∃ o,zK7 H2 a y o/\Q (o.getD .non) H2
def zRh (td ty tx:TE):TE:=fun Z H Q=>td Z H fun x H1=>∃ a,x=.ref a/\IsD H1 a/\ty Z H1 fun y H2=>tx Z H2 fun z H3=>∃ o,zK7 H3 a y o/\Q (o.getD z) H3
section
variable {X:Cx}{o e f:Expr}{apos cpos:Pos}{td ty tx:TE}
theorem zHn (hu:X.A.units+1 < cLine)(ho:PE X o td)(he:PE X e ty)(hf:PE X f tx)(m:M2 X o "get" apos e f cpos):PE X (.Call (.Attribute o "get" apos) [e,f] [] cpos) (zRh td ty tx):=by
 intro pins s Z H Q I h;refine wpAny_Call_method m.base m.few m.line PySem.F.plainAttrs_dict PySem.F.slot_dict_get PySem.F.type_dict_get (thn (ho pins s Z H _ I h) ?_);rintro u s1 ⟨x,H1,I1,rx,a,ex,d,q1⟩;subst ex;obtain rfl:u=Value.ref a:=rx;obtain ⟨t1,t2,_⟩:=zXN I1 d;refine ⟨t1,t2,?_⟩;rw [m.trees];refine Calls.callWith_builtin rfl (Calls.evalArgs_plain (Calls.spliced_cons (thn (he pins s1 Z H1 _ I1 q1) fun iv s2 ⟨y,H2,I2,ry,q2⟩ =>
   Calls.spliced_cons (thn (hf pins s2 Z H2 _ I2 q2) fun fv s3 ⟨z,H3,I3,rz,ov,g,q3⟩=>Calls.spliced_nil ?_))))
 exact zXO hu I3 g ry rz fun w' s4 I4 rw'=>⟨_,H3,I4,rw',q3⟩
end
section
variable {X:Cx}{pins:Y2}{Z:St}{H:Hp}{s:Shared}{a:Addr}{kvs:List (Key×V)}{A:Around}{E:Y1}
end
section
variable {X:Cx}{pins:Y2}{Z:St}{H:Hp}{s:Shared}{a:Addr}{y:V}{u:Value}{A:Around}{E:Y1}
end
section
variable {prog:Program}{w:World}{A:Around}{E:Y1}
end
section
variable {X:Cx}
end
section
variable {X:Cx}{pins:Y2}{Z:St}{H:Hp}{s:Shared}{h' : Heap}
theorem Inv.zIF {t' : Nat}{ch:List Addr}{T:Addr}{ob:HO}(I:Inv X pins Z H s)(k:∀ b o,b∉ch->s.heap.get? b=some o->h'.get? b=some o)(hf:∀ b∈ch,zRF X pins H b)(hT:s.heap.objs.size<=T)(new:jj X.prog X.w (upd H T ob) h' T ob):Inv X pins Z (upd H T ob) { s with heap:=h',toks:=t' }:=by
 have hn:H T=none:=I.hok.fresh hT;have nit:∀ b u,H b=some u->b∉ch:=fun b u e z=>by have q:=(hf b z).1;rw [q] at e;cases e
 refine I.step (g':=s.gens) (d':=s.drawn) (ch:=ch) (fun b hb=>⟨(hf b hb).2.2.2.1,(hf b hb).2.1,(hf b hb).2.2.2.2.1,(hf b hb).2.2.2.2.2⟩) (fun b o _ _ hc e _=>k b o hc e) (fun b o _ _ hc e _=>⟨o.slots,k b o hc e⟩)
   (fun b o _ e n=>?_) (fun b o hc e=>⟨o,k b o hc e⟩) (fun b xs e=>?_) (fun b o u e=>?_) (fun b ps e=>⟨#[],?_⟩) (fun m hm=>?_) (fun b u e=>?_) I.bare
 . rw [zF (Nat.ne_of_lt (Nat.lt_of_lt_of_le (Heap.lt_size e) hT))];exact n
 . rw [zF (zI e hn)];exact e
 . rw [zF (zI e hn)];exact e
 . rw [zF (zI e hn),e];simp
 . obtain ⟨o,es,ep,ho,r⟩:=hm;exact ⟨o,es,ep,k _ o (fun z=>(hf _ z).2.1 rfl) ho,r⟩
 . by_cases hb:b=T
   . subst hb;rw [zB] at e;cases e;exact new
   . rw [zF hb] at e;refine (I.hok b u e).zMK (fun c v hc q=>k c v ?_ q) (fun c q=>by rw [zF (zI q hn)];exact q) fun c xs q=>by rw [zF (zI q hn)];exact q
     rcases hc with z | z
     . rw [z];exact nit b u e
     . exact nit c _ z
theorem Inv.lock {d:Addr}{u:HO}(I:Inv X pins Z H s)(h:H d=some u)(mu:Mut (some u)):∃ od,Inv X pins Z (upd H d (.frz od u)) s:=by
 have x:=I.hok d u h;have ex:∃ od,s.heap.get? d=some od:=by
   cases u with
   | lst xs=>obtain ⟨_,_,_,_,e⟩:=x;exact ⟨_,e⟩
   | dK kvs=>obtain ⟨_,_,_,_,o,_,_,e,_⟩:=x;exact ⟨o,e⟩
   | dT kvs=>obtain ⟨_,_,_,_,o,_,_,e,_⟩:=x;exact ⟨o,e⟩
   | set S n=>obtain ⟨o,_,_,_,e,_⟩:=x;exact ⟨o,e⟩
   | ins C dx fs=>obtain ⟨_,_,_,e,_⟩:=x;exact ⟨_,e⟩
   | ext φ=>obtain ⟨_,⟨_,e⟩,_⟩:=x;exact ⟨_,e⟩
   | _=>exact False.elim mu
 obtain ⟨od,e⟩:=ex;have new:jj X.prog X.w (upd H d (.frz od u)) s.heap d (.frz od u):=by
   refine ⟨e,x.zMK (fun b v _ q=>q) (fun b q=>?_) fun b xs q=>?_⟩
   . rw [zF (fun z=>by rw [z,h] at q;cases q;exact mu)];exact q
   . rw [zF (fun z=>by rw [z,h] at q;cases q;exact mu)];exact q
 exact ⟨od,I.write (x:=d) (e:=d) (t':=s.toks) (h':=s.heap) (by rw [h];exact mu) (.inl rfl) (fun b v _ q=>q) ⟨od,e⟩ new⟩
theorem Inv.zTk {d:Addr}{u:HO}(I:Inv X pins Z H s)(h:H d=some u)(mu:Mut (some u)):∀ o' u',X.H_0 d≠some (.frz o' u'):=fun o' u' e=>by have q:=I.base.frzs d o' u' e;rw [h] at q;cases q;exact mu
theorem Inv.unlock {d:Addr}{od:Obj}{u:HO}(I:Inv X pins Z H s)(h:H d=some (.frz od u))(hn:∀ o' u',X.H_0 d≠some (.frz o' u')):Inv X pins Z (upd H d u) s:=by
 have neH:∀ b o,H b=some o->(∀ o' u',o≠.frz o' u')->b≠d:=fun b o e hne z=>by rw [z,h] at e;cases e;exact hne _ _ rfl
 have neN:∀ b,H b=none->b≠d:=fun b e z=>by rw [z,h] at e;cases e
 refine ⟨I.ok,I.os,I.bare,⟨I.base.keep,I.base.slot,fun b o e n hx=>?_,I.base.there,fun b xs e=>?_,fun b o x e=>?_,fun b ps e=>?_⟩,I.loc,I.cell,?_,fun x c e=>?_,fun p hp=>?_,fun b o e=>?_,I.len⟩
 . rw [zF (neN b (I.base.free b o e n hx))];exact I.base.free b o e n hx
 . have q:=I.base.tups b xs e;rw [zF (neH b _ q (fun _ _ z=>nomatch z))];exact q
 . have q:=I.base.frzs b o x e;rw [zF (fun z=>by rw [z] at e;exact hn _ _ e)];exact q
 . obtain ⟨m,q⟩:=I.base.tbls b ps e;exact ⟨m,by rw [zF (neH b _ q (fun _ _ z=>nomatch z))];exact q⟩
 . rw [zF (neN _ I.free)];exact I.free
 . rw [zF (neN c (I.freeC x c e))];exact I.freeC x c e
 . obtain ⟨e,n,r⟩:=I.pin p hp;exact ⟨e,by rw [zF (neN _ n)];exact n,r⟩
 . by_cases hb:b=d
   . rw [hb,zB] at e;cases e;rw [hb];obtain ⟨_,x⟩:=I.hok d _ h;exact x.zMK (fun c v _ q=>q) (fun c q=>by rw [zF (neH c _ q (fun _ _ z=>nomatch z))];exact q) fun c xs q=>by rw [zF (neH c _ q (fun _ _ z=>nomatch z))];exact q
   . rw [zF hb] at e;exact (I.hok b o e).zMK (fun c v _ q=>q) (fun c q=>by rw [zF (neH c _ q (fun _ _ z=>nomatch z))];exact q) fun c xs q=>by rw [zF (neH c _ q (fun _ _ z=>nomatch z))];exact q
end
def zTl (t:TS):TS:=fun D Z H=>∃ d u,H d=some u/\Mut (some u)/\∀ od,t ⟨fun Z' H'=>H' d=some (.frz od u)/\D.nx Z' (upd H' d u),fun v H'=>H' d=some (.frz od u)/\D.rt v (upd H' d u),fun Z' H'=>H' d=some (.frz od u)/\D.bk Z' (upd H' d u),fun Z' H'=>H' d=some (.frz od u)/\D.ct Z' (upd H' d u)⟩ Z (upd H d (.frz od u))
section
variable {X:Cx}
theorem zLA {st:Stmt}{t:TS}(h:PS X st t):PS X st (zTl t):=by
 intro pins s Z H D I hw;obtain ⟨d,u,hd,mu,hw⟩:=hw;obtain ⟨od,I1⟩:=I.lock hd mu;refine thn (h pins s Z _ _ I1 (hw od)) fun f s1 q=>?_;cases f with
 | next=>obtain ⟨Z',H',I2,e,q⟩:=q;exact ⟨Z',_,I2.unlock e (I.zTk hd mu),q⟩
 | brk=>obtain ⟨Z',H',I2,e,q⟩:=q;exact ⟨Z',_,I2.unlock e (I.zTk hd mu),q⟩
 | cont=>obtain ⟨Z',H',I2,e,q⟩:=q;exact ⟨Z',_,I2.unlock e (I.zTk hd mu),q⟩
 | ret v=>obtain ⟨x,Z',H',I2,r,e,q⟩:=q;exact ⟨x,Z',_,I2.unlock e (I.zTk hd mu),r,q⟩
theorem zO2 {tg:Expr}{pins:Y2}{Z:St}{H:Hp}{s:Shared}{R:It->Hp->Prop}{J:It}{tn:Nat->Heap->Prop}{tk:Nat}(I:Inv X pins Z H s)(o:Obj)(T:Turn X.prog X.w X.K tg J [s.heap.objs.size] s.heap.objs.size tn)(st:tn 0 (s.heap.push o))(q:R J H):PIE X pins Z tg R (.ref s.heap.objs.size) { s with heap:=s.heap.push o,toks:=tk }:=by
 refine ⟨s.heap.objs.size,[s.heap.objs.size],tn,J,H,rfl,I.kept fun b ob e=>Heap.get?_push_of_some _ e,T,st,fun b hb=>?_,q⟩;have e:b=s.heap.objs.size:=by simpa using hb
 subst e;exact I.zUh (Nat.le_refl _) (I.hok.fresh (Nat.le_refl _))
end
section
variable {X:Cx}{tg:Expr}
end
section
variable {X:Cx}{tg:Expr}
end
def Its (x:Str):It:=⟨fun i _=>i < x.cps.size,fun i H v H'=>H' = H/\∃ c,x.cps[i]? = some c/\v=.str ⟨#[c]⟩,fun i _=>x.cps.size<=i⟩
theorem zO3 {P:Program}{w:World}{K:Fg}{tg:Expr}(it:Addr)(x:Str)(t:Tok)(ty:String)(hty:ty = "str_ascii_iterator"\/ty = "str_iterator") : Turn P w K tg (Its x) [it] it (fun i h=>h.IsStrIter it ty x t i) where
 mem:=by simp
 obj:=fun i h st b hb=>by have e:b=it:=(by simpa using hb);subst e;obtain ⟨o,e,c,d⟩:=st;exact ⟨o,e,fun v z=>by rw [d] at z;cases z⟩
 keep:=fun i h h' st k=>let ⟨o,ho,r⟩:=st;⟨o,k it (by simp) o ho,r⟩
 item:=by
   intro X hP hw hK hc i pins s Z H E I hf st hg;subst hP hw hK;obtain ⟨f0,f1,f2,f3,f4,f5⟩:=hf it (by simp);have W:Walks X.prog X.w X.A it [it] [it] x.cps.size (SignAt x) (fun i h=>h.IsStrIter it ty x t i):=by
     rcases hty with e | e
     . rw [e];exact Walks.strAscii (I.ok.hd hc) it x t
     . rw [e];exact Walks.strWide (I.ok.hd hc) it x t
   have hno:["enumerate","zip","dict_itemiterator","dict_reverseitemiterator","odict_iterator","itertools.zip_longest","itertools.pairwise"].contains ty=false:=by
     rcases hty with e | e
     . rw [e];decide
     . rw [e];decide
   refine W.item i s _ _ hg st fun v h' tk hv st' kk=>?_;obtain ⟨c,u,hcx,rfl⟩:=hv;have I1:Inv X pins Z H { s with heap:=h',toks:=tk }:=I.turned (fun b o hb e=>kk b o (by simpa using hb) e) f0 f1 f3 f4 f5;obtain ⟨oi,e,cc,dd⟩:=id st';exact ⟨_,rfl,zP3 (s:={ s with heap:=h',toks:=tk }) e cc dd hno ⟨.str ⟨#[c]⟩,H,I1,⟨u,rfl⟩,⟨rfl,c,hcx,rfl⟩,st',fun b hb=>(hf b hb).1⟩⟩
 done:=by
   intro X hP hw hK hc i pins s Z H E I hf st hg;subst hP hw hK;obtain ⟨f0,f1,f2,f3,f4,f5⟩:=hf it (by simp);have hx:x.cps[i]? = none:=Array.getElem?_eq_none hg;rcases hty with e | e
   . rw [e] at st;exact wpAny_pyNext_ascii_end (I.ok.hd hc) st hx fun h' eb=>⟨rfl,I.turned (t':=s.toks) (fun b o hb e=>eb b o hb e) f0 f1 f3 f4 f5⟩
   . rw [e] at st;exact wpAny_pyNext_wide_end (I.ok.hd hc) st hx fun h' eb=>⟨rfl,I.turned (t':=s.toks) (fun b o hb e=>eb b o hb e) f0 f1 f3 f4 f5⟩
 self:=fun A i s Q E st h=>by
   rcases hty with e | e
   . rw [e] at st;exact wpAny_pyIter_striter_ascii st h
   . rw [e] at st;exact wpAny_pyIter_striter_wide st h
def zZU (te:TE):TI:=fun Z H R=>te Z H fun v H1=>∃ x,v=.str x/\R (Its x) H1
theorem zXP {X:Cx}{tg e:Expr}{te:TE}(he:PE X e te):PI X tg e (zZU te):=by
 intro pins s Z H R I h;refine thn (he pins s Z H _ I h) ?_;rintro v s1 ⟨y,H1,I1,r1,x,ex,q⟩;subst ex;obtain ⟨t,rfl⟩:=r1;cases ha:x.cps.all (· < 128)
 . exact wpAny_pyIter_wide ha (zO2 (tk:=s1.toks) I1 _ (zO3 _ x t "str_iterator" (.inr rfl)) ⟨_,Heap.get?_push_size _ rfl,rfl,rfl⟩ q)
 . exact wpAny_pyIter_ascii ha (zO2 (tk:=s1.toks) I1 _ (zO3 _ x t "str_ascii_iterator" (.inl rfl)) ⟨_,Heap.get?_push_size _ rfl,rfl,rfl⟩ q)
section
variable {prog:Program}{w:World}{A:Around}{E:Y1}{s:Shared}
theorem zMd {d:Addr}{o:Obj}{es:Array DictEntry}{ep:Nat}{Q:Y1}(hd:(d == sysModules)=false)(ho:s.heap.get? d=some o)(hc:o.ExactDict)(hdat:o.data=.dict es ep)(hQ:Q (.ref s.heap.objs.size) { s with heap:=s.heap.push { cls:=.type "dict_keyiterator",data:=.fields #[.ref d,.int 0 0,.int es.size 0,.int ep 0] } }) : wpAny (model prog w) A (pyIter (.ref d)) Q E s:=by have hT:s.TypeIs (.ref d) "dict":=⟨o,ho,hc.1⟩;refine wpAny_pyIter_slot hT F.slot_dict_iter (wpAny_call_entry F.slot_dict_iter hT F.entry_dict_iter ?_ (F.args_dict_iter_1 _));unfold Builtin.«dict.__iter__»;refine wpAny_bind ?_;unfold Builtin.Dict.dictSlotNone;refine wpAny_bind (wpAny_notOrdered_dict hT ?_);show wpAny _ _ (pure (Value.ref d)) _ _ s;refine wpAny_pure ?_;show wpAny _ _ (Builtin.Dict.showsAll d >>= _) _ _ s;unfold Builtin.Dict.showsAll;rw [if_neg (by rw [hd];exact Bool.false_ne_true)];refine wpAny_bind (wpAny_pure ?_);refine wpAny_bind (wpAny_dictEntries ho hdat ?_);refine wpAny_bind (wpAny_dictEpoch ho hdat ?_);refine wpAny_bind (wpAny_newObj_type (wpAny_pure ⟨_,rfl,"dict_keyiterator",_,⟨_,Heap.get?_push_size _ rfl,rfl⟩,F.slot_dict_keyiterator_next.lookup,?_⟩));simpa [rawInt] using hQ
theorem zLB {it d:Addr}{i n ep:Nat}{od:Obj}{es:Array DictEntry}{en:DictEntry}{Q:Option Value->Shared->Prop}(hit:s.heap.IsKeyIter it d i n ep)(hod:s.heap.get? d=some od)(hdd:od.data=.dict es ep)(hsz:es.size=n)(hx:es[i]? = some en)(hQ:∀ h',h'.IsKeyIter it d (i+1) n ep->Heap.SameBut it s.heap h'->Q (some en.key) { s with heap:=h' }):wpAny (model prog w) A (pyNext (.ref it)) Q E s:=by
 obtain ⟨o,ho,hc,hd⟩:=id hit;unfold pyNext;refine wpAny_bind (wpAny_attempt (wpAny_callSpecial?_slot (name:=Str.ofString "__next__") hit.typeIs F.slot_dict_keyiterator_next
   (wpAny_call_entry F.slot_dict_keyiterator_next hit.typeIs F.entry_dict_keyiterator_next ?_ (F.args_dict_keyiterator_next_1 _))))
 refine wpAny_bind (wpAny_pure ?_);refine wpAny_bind ?_;refine wpAny_bind ?_
 first | refine wpAny_bind (wpAny_typeNameOfWhole_keyiter hit.typeIs (wpAny_pure ?_)) | refine wpAny_bind (wpAny_typeNameOf_keyiter hit.typeIs (wpAny_pure ?_))
 refine wpAny_bind (wpAny_fieldsOf ho hd ?_);have hown:Builtin.Dict_items.ownsTuple "dict_keyiterator" = false:=by decide
 simp only [hown,Bool.false_eq_true,if_false];show wpAny _ _ (if (Value.ref d == Value.none)=true then _ else _) _ _ s;rw [if_neg (show ¬ ((Value.ref d == Value.none)=true) from Bool.false_ne_true)];refine wpAny_bind (wpAny_pure ?_);refine wpAny_bind (wpAny_dictEntries hod hdd ?_);rw [if_neg (by rw [hsz];simp)];refine wpAny_bind (wpAny_pure ?_);refine wpAny_bind (wpAny_dictEpoch hod hdd ?_);rw [if_neg (by simp)];refine wpAny_pure ?_;obtain ⟨hlt',hen⟩:=Array.getElem?_eq_some_iff.mp hx;simp only [show ¬ ((i:Int) < 0) from by omega,if_false,Int.toNat_natCast,Array.getElem?_eq_getElem hlt'];refine wpAny_bind ?_
 first | refine wpAny_bind (wpAny_typeNameOfWhole_keyiter hit.typeIs (wpAny_pure ?_)) | refine wpAny_bind (wpAny_typeNameOf_keyiter hit.typeIs (wpAny_pure ?_))
 refine wpAny_bind (wpAny_isOneOf_keyiter hit.typeIs ?_);show wpAny _ _ (setField (.ref it) 1 (rawInt ((i:Int)+1)) >>= _) _ _ s;refine wpAny_bind (wpAny_setField ho hd (by simp) ?_);have hit' : (s.heap.update it (Obj.mapFields (·.setIfInBounds 1 (rawInt ((i:Int)+1))))).IsKeyIter it d (i+1) n ep :=
   ⟨_,Heap.get?_update_self _ ho (Obj.isFreed_of_fields (Obj.data_mapFields hd _)),(Obj.cls_mapFields ..).trans hc,by rw [Obj.data_mapFields hd];simp [rawInt]⟩
 refine wpAny_bind (wpAny_holding ?_);refine wpAny_bind (wpAny_isOneOf_keyiter (s:={ s with heap:=s.heap.update it (Obj.mapFields (·.setIfInBounds 1 (rawInt ((i:Int)+1)))) }) hit'.typeIs ?_);show wpAny _ _ (pure es[i].key) _ _ _;rw [hen];exact wpAny_pure (wpAny_pure ⟨_,rfl,wpAny_pure (hQ _ hit' (Heap.SameBut.update ..))⟩)
theorem zHG {it d:Addr}{i n ep:Nat}{od:Obj}{es:Array DictEntry}{Q:Option Value->Shared->Prop}(hh:A.handled=none)(hit:s.heap.IsKeyIter it d i n ep)(hod:s.heap.get? d=some od)(hdd:od.data=.dict es ep)(hsz:es.size=n)(hge:n<=i)(hQ:∀ h',Heap.ExtBut it s.heap h'->Q none { s with heap:=h' }):wpAny (model prog w) A (pyNext (.ref it)) Q E s:=by
 obtain ⟨o,ho,hc,hd⟩:=id hit;unfold pyNext;refine wpAny_bind (wpAny_attempt (wpAny_callSpecial?_slot (name:=Str.ofString "__next__") hit.typeIs F.slot_dict_keyiterator_next
   (wpAny_call_entry F.slot_dict_keyiterator_next hit.typeIs F.entry_dict_keyiterator_next ?_ (F.args_dict_keyiterator_next_1 _))))
 refine wpAny_bind (wpAny_pure ?_);refine wpAny_bind ?_;refine wpAny_bind ?_
 first | refine wpAny_bind (wpAny_typeNameOfWhole_keyiter hit.typeIs (wpAny_pure ?_)) | refine wpAny_bind (wpAny_typeNameOf_keyiter hit.typeIs (wpAny_pure ?_))
 refine wpAny_bind (wpAny_fieldsOf ho hd ?_);have hown:Builtin.Dict_items.ownsTuple "dict_keyiterator" = false:=by decide
 simp only [hown,Bool.false_eq_true,if_false];show wpAny _ _ (if (Value.ref d == Value.none)=true then _ else _) _ _ s;rw [if_neg (show ¬ ((Value.ref d == Value.none)=true) from Bool.false_ne_true)];refine wpAny_bind (wpAny_pure ?_);refine wpAny_bind (wpAny_dictEntries hod hdd ?_);rw [if_neg (by rw [hsz];simp)];refine wpAny_bind (wpAny_pure ?_);refine wpAny_bind (wpAny_dictEpoch hod hdd ?_);rw [if_neg (by simp)];refine wpAny_pure ?_;have hge' : es.size<=i:=by rw [hsz];exact hge
 simp only [show ¬ ((i:Int) < 0) from by omega,if_false,Int.toNat_natCast,Array.getElem?_eq_none hge'];refine wpAny_bind ?_
 first | refine wpAny_bind (wpAny_typeNameOfWhole_keyiter hit.typeIs (wpAny_pure ?_)) | refine wpAny_bind (wpAny_typeNameOf_keyiter hit.typeIs (wpAny_pure ?_))
 show wpAny _ _ (setField (.ref it) 0 .none >>= _) _ _ s;refine wpAny_bind (wpAny_setField ho hd (by simp) ?_);show wpAny _ _ (newExc (.type "StopIteration") [] >>= _) _ _ _;refine wpAny_bind ?_;simp only [newExc,newTuple];refine wpAny_bind (wpAny_newObj_type ?_ (by size_fits));refine wpAny_bind (m:=firstArgMember _ _) (wpAny_of_eq (a:=Value.none) (by first | rfl | (simp only [firstArgMember];rfl)) ?_);refine wpAny_newObj_type ?_ (by size_fits);simp only [raiseNew];refine wpAny_bind (wpAny_handled ?_);rw [show A.in1.handled=none from hh];refine wpAny_bind (wpAny_pure (wpAny_throw ?_));refine wpAny_bind (wpAny_isInstance (T := "StopIteration") (b:=true) ⟨_,Heap.get?_push_size _ rfl,rfl⟩ isSubtype_stop ?_);exact wpAny_pure (hQ _ (((Heap.SameBut.update ..).extBut.push _).push _))
end
theorem zXQ {κ:Type}{kvs:List (κ×V)}{vs:List (κ×Value)}(h:KV kvs vs):∀ {i:Nat}{k:κ}{v:V},kvs[i]? = some (k,v)->∃ u,vs[i]? = some (k,u)/\RelV v u:=by
 unfold KV at h
 induction h with
 | nil=>intro i k v e;simp at e
 | @cons a b l₁ l₂ r t ih =>
   intro i k v e;cases i with
   | zero =>simp only [List.getElem?_cons_zero,Option.some.injEq] at e;subst e;refine ⟨b.2,?_,r.2⟩;simp only [List.getElem?_cons_zero];exact congrArg some (Prod.ext r.1.symm rfl)
   | succ j =>simp only [List.getElem?_cons_succ] at e ⊢;exact ih e
theorem qx {α β:Type}{G:α->β->Prop}{l₁:List α}{l₂:List β}(h:Paired G l₁ l₂):∀ {i:Nat}{a:α},l₁[i]? = some a->∃ b,l₂[i]? = some b/\G a b:=by
 induction h with
 | nil=>intro i a e;simp at e
 | @cons a b l₁ l₂ r t ih =>
   intro i a' e;cases i with
   | zero =>simp only [List.getElem?_cons_zero,Option.some.injEq] at e;subst e;exact ⟨b,rfl,r⟩
   | succ j =>simp only [List.getElem?_cons_succ] at e ⊢;exact ih e
theorem zTm {k:Key}{u:Value}(h:zJW k u=true):RelV (kV k) u:=by
 rcases qd h with ⟨i,t,rfl,rfl⟩ | ⟨x,t,rfl,rfl⟩
 . exact ⟨t,rfl⟩
 . exact ⟨t,rfl⟩
section
variable {X:Cx}{pins:Y2}{Z:St}{H:Hp}{s:Shared}{d:Addr}{o:Obj}
theorem Inv.zYb {kvs:List (Key×V)}(I:Inv X pins Z H s)(h:H d=some (.frz o (.dK kvs))) : (d == sysModules)=false/\s.heap.get? d=some o/\o.ExactDict/\∃ (es:Array DictEntry) (ep:Nat) (vs:List (Key×Value)),o.data=.dict es ep/\es.size=kvs.length/\KV kvs vs/\s.heap.DictAt (z4 X.prog X.w) d vs ep:=by obtain ⟨hd,z,hs,vs,kv,o',es,ep,ho,hx,hdt,r⟩:=I.hok d _ h;rw [hd] at ho;cases ho;refine ⟨hs,hd,hx,es,ep,vs,hdt,?_,kv,o,es,hd,hx,hdt,r⟩;have l1:=r.2.1.length;have l2:kvs.length=vs.length:=Paired.length kv;rw [Array.length_toList] at l1;omega
theorem Inv.zYc {kvs:List (List Key×V)}(I:Inv X pins Z H s)(h:H d=some (.frz o (.dT kvs))) : (d == sysModules)=false/\s.heap.get? d=some o/\o.ExactDict/\∃ (es:Array DictEntry)(ep:Nat),o.data=.dict es ep/\es.size=kvs.length/\
     ∀ (i:Nat)(k:List Key)(v:V),kvs[i]? = some (k,v)->∃ (en:DictEntry)(q:Addr),es[i]? = some en/\en.key=.ref q/\H q=some (.tup (k.map kV)):=by
 obtain ⟨hd,z,hs,xs,pr,o',es,ep,ho,hx,hdt,he,_⟩:=I.hok d _ h;rw [hd] at ho;cases ho;refine ⟨hs,hd,hx,es,ep,hdt,?_,fun i k v e=>?_⟩
 . have l1:es.size=xs.length:=size_of_entries he;have l2:kvs.length=xs.length:=Paired.length pr;omega
 . obtain ⟨b,hb,e1,e2,_⟩:=qx pr e;have q:=entry_at he i;rw [hb] at q;exact ⟨_,b.2.1,q,rfl,e2⟩
end
def Itk (d:Addr)(o:Obj)(kvs:List (Key×V)):It :=
 ⟨fun i H=>H d=some (.frz o (.dK kvs))/\i < kvs.length,fun i H x H'=>H' = H/\∃ k v,kvs[i]? = some (k,v)/\x=kV k,fun i H=>H d=some (.frz o (.dK kvs))/\kvs.length<=i⟩
def zZA (d:Addr)(o:Obj)(kvs:List (List Key×V)):It :=
 ⟨fun i H=>H d=some (.frz o (.dT kvs))/\i < kvs.length,fun i H x H'=>H' = H/\∃ (k:List Key)(v:V)(q:Addr),kvs[i]? = some (k,v)/\x=.ref q/\H q=some (.tup (k.map kV)),fun i H=>H d=some (.frz o (.dT kvs))/\kvs.length<=i⟩
theorem zLC {o:Obj}{es es' : Array DictEntry}{ep ep' : Nat}(h:o.data=.dict es ep)(h' : o.data=.dict es' ep'):es' = es/\ep' = ep:=by rw [h] at h';cases h';exact ⟨rfl,rfl⟩
section
variable {P:Program}{w:World}{K:Fg}{tg:Expr}{d:Addr}{o:Obj}{es:Array DictEntry}{ep:Nat}
theorem zRi {kvs:List (Key×V)}(it:Addr)(hod:o.data=.dict es ep):Turn P w K tg (Itk d o kvs) [it] it (fun i h=>h.IsKeyIter it d i kvs.length ep) where
 mem:=by simp
 obj:=fun i h st b hb=>by have e:b=it:=(by simpa using hb);subst e;obtain ⟨oi,e,c,dd⟩:=st;exact ⟨oi,e,fun v z=>by rw [dd] at z;cases z⟩
 keep:=fun i h h' st k=>st.at fun oi e=>k it (by simp) oi e
 item:=by intro X hP hw hK hc i pins s Z H E I hf st hg;subst hP hw hK;obtain ⟨hd,hi⟩:=hg;obtain ⟨f0,f1,f2,f3,f4,f5⟩:=hf it (by simp);obtain ⟨hs,hgd,hx,es',ep',vs,hdt,hsz,kv,hm⟩:=I.zYb hd;obtain ⟨rfl,rfl⟩:=zLC hod hdt;obtain ⟨⟨k,v⟩,hkv⟩ : ∃ p,kvs[i]? = some p:=⟨kvs[i],List.getElem?_eq_getElem hi⟩;obtain ⟨u,hu,ru⟩:=zXQ kv hkv;have hl:kvs.length=vs.length:=Paired.length kv;rw [hl] at st;refine wpAny_pyNext_dict_item st hm hu fun key h' hkey st' sb=>?_;have I1:Inv X pins Z H { s with heap:=h' }:=I.turned (t':=s.toks) (fun b ob hb e=>(sb.2 b hb).trans e) f0 f1 f3 f4 f5;obtain ⟨oi,e,c,dd⟩:=id st';refine ⟨key,rfl,zP3 (s:={ s with heap:=h' }) e c dd (by decide) ⟨kV k,H,I1,zTm (show zJW k key=true from hkey),⟨rfl,k,v,hkv,rfl⟩,?_,fun b hb=>(hf b hb).1⟩⟩;show h'.IsKeyIter it d (i+1) kvs.length _;rw [hl];exact st'
 done:=by intro X hP hw hK hc i pins s Z H E I hf st hg;subst hP hw hK;obtain ⟨hd,hi⟩:=hg;obtain ⟨f0,f1,f2,f3,f4,f5⟩:=hf it (by simp);obtain ⟨hs,hgd,hx,es',ep',vs,hdt,hsz,kv,hm⟩:=I.zYb hd;obtain ⟨rfl,rfl⟩:=zLC hod hdt;exact zHG (I.ok.hd hc) st hgd hdt hsz hi fun h' eb=>⟨rfl,I.turned (t':=s.toks) (fun b ob hb e=>eb b ob hb e) f0 f1 f3 f4 f5⟩
 self:=fun A i s Q E st h=>wpAny_pyIter_keyiter st h
theorem zQJ {kvs:List (List Key×V)}(it:Addr)(hod:o.data=.dict es ep):Turn P w K tg (zZA d o kvs) [it] it (fun i h=>h.IsKeyIter it d i kvs.length ep) where
 mem:=by simp
 obj:=fun i h st b hb=>by have e:b=it:=(by simpa using hb);subst e;obtain ⟨oi,e,c,dd⟩:=st;exact ⟨oi,e,fun v z=>by rw [dd] at z;cases z⟩
 keep:=fun i h h' st k=>st.at fun oi e=>k it (by simp) oi e
 item:=by intro X hP hw hK hc i pins s Z H E I hf st hg;subst hP hw hK;obtain ⟨hd,hi⟩:=hg;obtain ⟨f0,f1,f2,f3,f4,f5⟩:=hf it (by simp);obtain ⟨hs,hgd,hx,es',ep',hdt,hsz,ent⟩:=I.zYc hd;obtain ⟨rfl,rfl⟩:=zLC hod hdt;obtain ⟨⟨k,v⟩,hkv⟩ : ∃ p,kvs[i]? = some p:=⟨kvs[i],List.getElem?_eq_getElem hi⟩;obtain ⟨en,q,hen,hkey,hq⟩:=ent i k v hkv;refine zLB st hgd hdt hsz hen fun h' st' sb=>?_;have I1:Inv X pins Z H { s with heap:=h' }:=I.turned (t':=s.toks) (fun b ob hb e=>(sb.2 b hb).trans e) f0 f1 f3 f4 f5;obtain ⟨oi,e,c,dd⟩:=id st';exact ⟨en.key,rfl,zP3 (s:={ s with heap:=h' }) e c dd (by decide) ⟨.ref q,H,I1,hkey,⟨rfl,k,v,q,hkv,rfl,hq⟩,st',fun b hb=>(hf b hb).1⟩⟩
 done:=by intro X hP hw hK hc i pins s Z H E I hf st hg;subst hP hw hK;obtain ⟨hd,hi⟩:=hg;obtain ⟨f0,f1,f2,f3,f4,f5⟩:=hf it (by simp);obtain ⟨hs,hgd,hx,es',ep',hdt,hsz,ent⟩:=I.zYc hd;obtain ⟨rfl,rfl⟩:=zLC hod hdt;exact zHG (I.ok.hd hc) st hgd hdt hsz hi fun h' eb=>⟨rfl,I.turned (t':=s.toks) (fun b ob hb e=>eb b ob hb e) f0 f1 f3 f4 f5⟩
 self:=fun A i s Q E st h=>by refine wpAny_pyIter_slot st.typeIs F.slot_dict_keyiterator_iter (wpAny_call_entry F.slot_dict_keyiterator_iter st.typeIs F.entry_dict_keyiterator_iter ?_ (F.args_dict_keyiterator_iter_1 _));show wpAny _ _ (ret (.ref it)) _ _ s;exact wpAny_pure ⟨_,rfl,"dict_keyiterator",_,st.typeIs,F.slot_dict_keyiterator_next.lookup,h⟩
end
def zYd (td:TE):TI:=fun Z H R=>td Z H fun x H1=>∃ d o,x=.ref d/\((∃ kvs,H1 d=some (.frz o (.dK kvs))/\R (Itk d o kvs) H1)\/∃ kvs,H1 d=some (.frz o (.dT kvs))/\R (zZA d o kvs) H1)
section
variable {X:Cx}{tg e:Expr}{td:TE}{apos cpos:Pos}
theorem zNq (he:PE X e td):PI X tg e (zYd td):=by
 intro pins s Z H R I h;refine thn (he pins s Z H _ I h) ?_;rintro u s1 ⟨x,H1,I1,rx,d,o,ex,q⟩;subst ex;obtain rfl:u=Value.ref d:=rx;rcases q with ⟨kvs,hd,q⟩ | ⟨kvs,hd,q⟩
 . obtain ⟨hs,hgd,hx,es,ep,vs,hdt,hsz,kv,hm⟩:=I1.zYb hd;refine zMd hs hgd hx hdt (zO2 (tk:=s1.toks) I1 _ (zRi _ hdt) ⟨_,Heap.get?_push_size _ rfl,rfl,?_⟩ q);rw [hsz] <;> rfl
 . obtain ⟨hs,hgd,hx,es,ep,hdt,hsz,ent⟩:=I1.zYc hd;refine zMd hs hgd hx hdt (zO2 (tk:=s1.toks) I1 _ (zQJ _ hdt) ⟨_,Heap.get?_push_size _ rfl,rfl,?_⟩ q);rw [hsz] <;> rfl
end
def Ite (K:Fg)(a:Addr):It :=
 ⟨fun i H=>∃ (xs:List V)(x:V),SqL K H a xs/\xs[i]? = some x,fun i H v H'=>∃ T x,v=.ref T/\H T=none/\H' = upd H T (.tup [.int (i:Nat),x])/\∀ xs,SqL K H a xs->xs[i]? = some x,fun i H=>∃ xs:List V,SqL K H a xs/\xs.length<=i⟩
theorem zRj {P:Program}{w:World}{K:Fg}{elts:List Expr}{kk:Nat}{tpos:Pos}(a e it:Addr) : Turn P w K (.Tuple elts kk tpos) (Ite K a) [e,it] e (fun i h=>(∃ old,IsEnum h e it ((i:Nat):Int) old)/\h.IsListIter it a i/\e≠it) where
 mem:=by simp
 obj:=fun i h st b hb=>by
   obtain ⟨⟨old,he⟩,⟨o,ho,hc,hd⟩,_⟩:=st;have e' : b=e\/b=it:=(by simpa using hb);rcases e' with z | z
   . rw [z];exact ⟨_,he,fun v q=>nomatch q⟩
   . rw [z];exact ⟨o,ho,fun v q=>by rw [hd] at q;cases q⟩
 keep:=fun i h h' st k=>let ⟨⟨old,he⟩,hi,hne⟩:=st;⟨⟨old,k e (by simp) _ he⟩,hi.at fun o q=>k it (by simp) o q,hne⟩
 item:=by
   intro X hP hw hK hc i pins s Z H E I hf st hg;subst hP hw hK;obtain ⟨⟨old,he⟩,hit,hne⟩:=st;obtain ⟨xs,x,hq,hx⟩:=hg;obtain ⟨its,rv,p,hz⟩:=I.list hq;obtain ⟨u,hu,ru⟩:=rv.get hx;have hel:e < s.heap.objs.size:=Heap.lt_size he;have hil:it < s.heap.objs.size:=by obtain ⟨_,q,_⟩:=hit;exact Heap.lt_size q
   refine wpAny_pyNext_enum_item he hit p.isList (x:=u) (by simpa using hu) hne fun h' ho hit' hT hsz hk=>?_;refine ⟨_,rfl,wpAny_letOwnedTupleGo_enum (s:={ s with heap:=h',toks:=s.toks+1 }) ho fun h'' he' sb=>?_⟩;have hT2:h''.get? s.heap.objs.size=some { cls:=.type "tuple",data:=.seq #[.int i s.toks,u] }:=(sb.2 _ (Nat.ne_of_gt hel)).trans hT;have new:jj X.prog X.w (upd H s.heap.objs.size (.tup [.int (i:Nat),x])) h'' s.heap.objs.size (.tup [.int (i:Nat),x]) :=
     ⟨by show 2<=sizeLine;decide,[.int i s.toks,u],.cons ⟨_,rfl⟩ (.cons ru .nil),⟨_,hT2,rfl,_,rfl⟩⟩
   have I1:Inv X pins Z (upd H s.heap.objs.size (.tup [.int (i:Nat),x])) { s with heap:=h'',toks:=s.toks+1 } :=
     I.zIF (ch:=[e,it]) (fun b ob hb q=>(sb.2 b (fun z=>hb (by simp [z]))).trans (hk b ob (fun z=>hb (by simp [z])) (fun z=>hb (by simp [z])) q)) hf (Nat.le_refl _) new
   refine ⟨.ref s.heap.objs.size,_,I1,rfl,⟨_,x,rfl,I.hok.fresh (Nat.le_refl _),rfl,fun ys hy=>by rw [I.zKu hy hq];exact hx⟩,⟨⟨u,?_⟩,hit'.at fun o q=>(sb.2 it (Ne.symm hne)).trans q,hne⟩,fun b hb=>?_⟩
   . have e1:((i+1:Nat):Int)=(i:Int)+1:=(by omega);rw [e1];exact he'
   . have hb' : b < s.heap.objs.size:=by
       have e' : b=e\/b=it:=(by simpa using hb);rcases e' with z | z
       . rw [z];exact hel
       . rw [z];exact hil
     rw [zF (Nat.ne_of_lt hb')];exact (hf b hb).1
 done:=by intro X hP hw hK hc i pins s Z H E I hf st hg;subst hP hw hK;obtain ⟨⟨old,he⟩,hit,hne⟩:=st;obtain ⟨xs,hq,hx⟩:=hg;obtain ⟨its,rv,p,hz⟩:=I.list hq;obtain ⟨f0,f1,f2,f3,f4,f5⟩:=hf it (by simp);have hl:=rv.length;exact wpAny_pyNext_enum_end (I.ok.hd hc) he hit p.isList (by simp;omega) fun h' eb=>⟨rfl,I.turned (t':=s.toks) (fun b o hb q=>eb b o hb q) f0 f1 f3 f4 f5⟩
 self:=fun A i s Q E st h=>let ⟨⟨_,he⟩,_⟩:=st;wpAny_pyIter_enum he h
def zYe (K:Fg)(ta:TA):TI:=fun Z H R=>ta Z H fun vs H1=>∃ a xs,vs=[.ref a]/\SqL K H1 a xs/\R (Ite K a) H1
theorem zLD {X:Cx}{e:Expr}{ta:TA}{p pos tpos:Pos}{elts:List Expr}{kk:Nat}(hg:Gl X "enumerate")(hm:X.mg "enumerate" = none)(ha:PA X [e] ta)(hs:starEach [e] X.env=[(false,eval e X.env)]:=by rfl) : PI X (.Tuple elts kk tpos) (.Call (.Name "enumerate" p) [e] [] pos) (zYe X.K ta):=by
 intro pins s Z H R I h;refine Call_ (zHz I hg hm boot_enumerate (PyProof.Rows.callWith_type1 (thn (ha pos pins s Z H _ I h) ?_) hs rfl));rintro us s1 ⟨vs,H1,I1,r1,q1⟩;obtain ⟨a,xs,ex,hq,q⟩:=q1;subst ex;cases r1 with
 | cons r rr =>
   cases rr;cases r;obtain ⟨its,rv,p',hz⟩:=I1.list hq;refine call_enumerate_list p'.isList fun h' he hit hsz hk=>wpAny_pyIter_enum he ?_;have I2:Inv X pins Z H1 { s1 with heap:=h' }:=I1.kept (t':=s1.toks) hk;refine ⟨s1.heap.objs.size+1,[s1.heap.objs.size+1,s1.heap.objs.size],_,_,H1,rfl,I2,zRj a (s1.heap.objs.size+1) s1.heap.objs.size,⟨⟨.none,he⟩,hit,Nat.succ_ne_self _⟩,fun b hb=>?_,q⟩;have e' : b=s1.heap.objs.size+1\/b=s1.heap.objs.size:=by simpa using hb
   have hle:s1.heap.objs.size<=b:=by
     rcases e' with z | z
     . rw [z];exact Nat.le_add_right _ _
     . rw [z];exact Nat.le_refl _
   exact I1.zUh hle (I1.hok.fresh hle)
end L2
section
namespace Bits
open PySem PyProof.Rows
end Bits
end
section
namespace TL
open PySem PySem.Builtin PySem.Builtin.Str PySem.StrLaws
end TL
end
namespace L2
open PySem PySem.Spec PyProof.Rows
section
variable {X:Cx}{pins:Y2}{Z:St}{H:Hp}{s:Shared}{Q:VK}
end
section
variable {X:Cx}
end
section
variable {X:Cx}{o e:Expr}{to te:TE}
end
section
variable {X:Cx}
end
end L2
namespace Att
open PySem PySem.W PySem.Calls PyProof.Rows
section
variable {prog:Program}{w:World}{A:Around}{E:Y1}{s:Shared}{K:Frag}
end
end Att
namespace L2
open PySem PySem.Spec PyProof.Rows
def inClass (s:Stmt)(j:Nat):Stmt:=match s with
 | .ClassDef _ _ _ body _ _ _ _ _ _ _=>body.getD j (.Pass ⟨0,0,0,0⟩)
 | _=>.Pass ⟨0,0,0,0⟩
def Q1 (s:Stmt):Arguments:=match s with
 | .FunctionDef _ a _ _ _ _ _ _ _ _=>a
 | _=>{ posonlyargs:=[],args:=[],vararg:=none,kwonlyargs:=[],kw_defaults:=[],kwarg:=none,defaults:=[] }
def jq (s:Stmt):List Stmt:=match s with
 | .FunctionDef _ _ b _ _ _ _ _ _ _=>b
 | _=>[]
def zH (s:Stmt):Scope:=match s with
 | .FunctionDef _ _ _ _ _ _ sc _ _ _=>sc
 | _=>{ kind:=.function,names:=[],isGenerator:=false,isCoroutine:=false }
abbrev CX0:CXT:=fun _ _ _ _ _ _=>False
abbrev E0:XK:=fun _ _ _=>False
theorem zBj {X:Cx}:Passes CX0 X E0:=fun _ _ _ _ _ _ _ h=>h.elim
structure Fun (K:Fg)(x qual:Str)(st:Stmt)(f:Addr)(fd:FuncData):Prop where
 ex:∃ (oc:Value) (od:Option Addr) (kV doc pm:Value) (an:Option Addr) (cdv ct:Value) (osl:Array (Option Value)),
   fd=PySem.W.fnOf x qual (Q1 st) (jq st) (zH st) .none kV doc pm an cdv ct/\K.lookup f=some ⟨oc,od,.func fd,osl⟩/\PySem.W.codeIn K cdv qual=true
 kp:PySem.W.keepIn K (.ref f)=true
section
variable {P:Program}{w:World}{K:Fg}{mg:Y3}{base:Heap}
theorem Fun.ok {x qual:Str}{st:Stmt}{f:Addr}{fd:FuncData}{N ps:List Str}{k:Nat}{sp:Sp}(F:Fun K x qual st f fd)(S:zL N ps (zH st))(len:∀ vs H Q E,sp vs H Q E->vs.length=ps.length)(hbody:∀ (cdv:Value)(A:Around)(outer:List Env)(s:Shared)(H:Hp)(vs:List V)(Q:VK)(E:XK),zDi k (A.deeper (envOfC qual (zH st) s.heap.objs.size f cdv))->sp vs H Q E->
     ∃ t,PSs (zKF CX0 P w K mg base N qual (zH st) f cdv A outer s H E).nox (jq st) t/\t { nx:=fun _ H'=>Q .non H',rt:=Q } (start N vs) H):qM P w K mg base CX0 (k+1) f fd ps sp:=by
 obtain ⟨oc,od,kV,doc,pm,an,cdv,ct,osl,rfl,lk,hcd⟩:=F.ex;refine zW7 lk hcd S len fun A outer s H vs Q E hr hsp=>?_;obtain ⟨t,h,q⟩:=hbody cdv A outer s H vs Q E hr hsp;exact ⟨t,h.nox,q⟩
theorem Fun.binds {x qual:Str}{st:Stmt}{f:Addr}{fd:FuncData}{ps:List Str}(F:Fun K x qual st f fd)(h:∀ (kV doc pm:Value)(an:Option Addr)(cdv ct:Value)(us:List Value),us.length=ps.length->bindArgs (PySem.W.fnOf x qual (Q1 st) (jq st) (zH st) .none kV doc pm an cdv ct) ⟨us,[]⟩=pure (ps.zip us)):Binds K fd ps []:=by obtain ⟨oc,od,kV,doc,pm,an,cdv,ct,osl,rfl,lk,hcd⟩:=F.ex;exact .all (h kV doc pm an cdv ct)
theorem zO4 {x qual:Str}{st:Stmt}{f:Addr}{oc:Value}{od an:Option Addr}{osl:Array (Option Value)}{kV doc pm cdv ct:Value}(l:K.lookup f=some ⟨oc,od,.func (PySem.W.fnOf x qual (Q1 st) (jq st) (zH st) .none kV doc pm an cdv ct),osl⟩)(c:PySem.W.codeIn K cdv qual=true)(k:PySem.W.keepIn K (.ref f)=true):Fun K x qual st f (PySem.W.fnOf x qual (Q1 st) (jq st) (zH st) .none kV doc pm an cdv ct):=⟨⟨oc,od,kV,doc,pm,an,cdv,ct,osl,rfl,l,c⟩,k⟩
end
theorem zAF {A:Around}{k:Nat}(hr:zDi k A):A.units+1 < cLine:=Nat.lt_of_le_of_lt (Nat.add_le_add_left (by decide:1<=64) _) hr.units
section
variable {X:Cx}
theorem pv (i:Nat){x:Str}{pos:Pos}(hN:X.N[i]? = some x:=by rfl)(hv:Vis X.env.scope x:=by first | exact Or.inl rfl | exact Or.inr (Or.inl rfl) | exact Or.inr (Or.inr rfl))(hd:(x == ("__debug__" : Str))=false:=by decide)(hcd:(x == ("__classdict__" : Str))=false:=by decide):PE X (.Name x pos) (zFr i):=zWs hN hv hd hcd
end
theorem zZB {A B:Prop}(h:B):if false=true then A else B:=by rw [if_neg Bool.false_ne_true];exact h
theorem zYf {A B:Prop}(h:A):if true=true then A else B:=by rw [if_pos rfl];exact h
def zz (H H' : Hp):Prop:=∀ b o,H b=some o->H' b=some o
theorem zz.trans {H H1 H2:Hp}(a:zz H H1)(b:zz H1 H2):zz H H2:=fun c o h=>b c o (a c o h)
theorem zz.free {H H' : Hp}(e:zz H H'){l:Addr}(h:H' l=Option.none):H l=Option.none:=by
 cases q:H l with
 | none=>rfl
 | some o =>rw [e l o q] at h;cases h
theorem zz.seq {K:Fg}{H H' : Hp}{a:Addr}{xs:List V}(e:zz H H')(h:SqL K H a xs):SqL K H' a xs:=by
 rcases h with (h | ⟨o,h⟩) | h
 . exact .inl (.inl (e _ _ h))
 . exact .inl (.inr ⟨o,e _ _ h⟩)
 . exact .inr h
section
variable {κ:Type} [DecidableEq κ]
end
theorem at_of {xs:List V}{z:Int}{j:Nat}{v:V}(e:z=(j:Int))(h:xs[j]? = some v):atI xs z=some v:=by rw [e];exact Zw h
end L2
section
namespace L2
open PySem PySem.Spec PyProof.Rows
open PySem.W (WData Codec OpenSpec Well WellAll ReadsW ReadsAllW)
mutual
inductive Dw (K:Fg)(H:Hp):V->WData->Prop
 | non:Dw K H .non .none
 | bl (b:Bool):Dw K H (.bl b) (.bool b)
 | int (i:Int):Dw K H (.int i) (.int i)
 | str (x:Str):Dw K H (.str x) (.str x)
 | byt (b:Array UInt8):Dw K H (.byt b) (.bytes b.toList)
 | lst {a:Addr}{xs:List V}{ds:List WData}:SqL K H a xs->zHW K H xs ds->Dw K H (.ref a) (.list ds)
 | tup {a:Addr}{xs:List V}{ds:List WData}:SqT K H a xs->zHW K H xs ds->Dw K H (.ref a) (.tuple ds)
inductive zHW (K:Fg)(H:Hp):List V->List WData->Prop
 | nil:zHW K H [] []
 | cons {v:V}{vs:List V}{d:WData}{ds:List WData}:Dw K H v d->zHW K H vs ds->zHW K H (v :: vs) (d :: ds)
end
theorem zRk {K:Fg}{H:Hp}:∀ ns:List Int,zHW K H (ns.map V.int) (ns.map WData.int)
 | []=>.nil
 | n :: r=>.cons (.int n) (zRk r)
theorem zRl {K:Fg}{H:Hp}:∀ (ns:List Int)(xs:List V),zHW K H xs (ns.map WData.int)->xs=ns.map V.int
 | [],xs,h=>by cases h;rfl
 | n :: r,xs,h=>by
   cases h with
   | cons h1 h2 =>cases h1;rw [zRl r _ h2] <;> rfl
section
variable {P:Program}{w:World}{K:Fg}{H:Hp}{h:Heap}{R:PySem.W.WRecords}{cl:Str->Option Addr}
theorem zXR {a:Addr}{xs:List V}(hok:HOk P w H h)(KX:K.In h)(q:SqL K H a xs):∃ (its:List Value)(o:Obj)(n:Nat),Vals xs its/\h.get? a=some o/\o.cls=.type "list"/\o.data=.seq its.toArray n:=by
 rcases q with q | ⟨o,its,n,e,hc,_,hd,_,hv⟩
 . obtain ⟨_,its,n,hv,e⟩:=(show jj P w H h a (.lst xs) from q.ok hok);exact ⟨its,_,n,hv,e,rfl,rfl⟩
 . exact ⟨its.toList,o,n,hv,KX _ _ e,hc,by simp [hd]⟩
theorem zXS {a:Addr}{xs:List V}(hok:HOk P w H h)(KX:K.In h)(q:SqT K H a xs):∃ (its:List Value)(o:Obj)(n:Nat),Vals xs its/\h.get? a=some o/\o.cls=.type "tuple"/\o.data=.seq its.toArray n:=by
 rcases q with q | ⟨o,its,n,e,hc,hd,_,hv⟩
 . obtain ⟨_,its,hv,o,e,hc,n,hd⟩:=(show jj P w H h a (.tup xs) from q.ok hok);exact ⟨its,o,n,hv,e,hc,hd⟩
 . exact ⟨its.toList,o,n,hv,KX _ _ e,hc,by simp [hd]⟩
mutual
theorem Dw.reads (hok:HOk P w H h)(KX:K.In h):∀ (d:WData)(v:V)(u:Value),Dw K H v d->RelV v u->∃ as,ReadsW R cl h u d as
 | .none,_,_,x,r=>by cases x;cases r;exact ⟨_,ReadsW.none⟩
 | .bool b,_,_,x,r=>by cases x;cases r;exact ⟨_,ReadsW.bool b⟩
 | .int i,_,_,x,r=>by cases x;obtain ⟨t,rfl⟩:=r;exact ⟨_,ReadsW.int i t⟩
 | .str s,_,_,x,r=>by cases x;obtain ⟨t,rfl⟩:=r;exact ⟨_,ReadsW.str s t⟩
 | .bytes b,_,_,x,r=>by cases x;obtain ⟨t,rfl⟩:=r;exact ⟨_,ReadsW.bytes _ t⟩
 | .list ds,_,_,x,r=>by
   cases x with
   | lst hs ha =>cases r;obtain ⟨its,o,n,rv,ho,hc,hd⟩:=zXR hok KX hs;obtain ⟨as,hr⟩:=Dw.readsAll hok KX ds _ its ha rv;exact ⟨_,ReadsW.list ho hc hd hr⟩
 | .tuple ds,_,_,x,r=>by
   cases x with
   | tup hs ha =>cases r;obtain ⟨its,o,n,rv,ho,hc,hd⟩:=zXS hok KX hs;obtain ⟨as,hr⟩:=Dw.readsAll hok KX ds _ its ha rv;exact ⟨_,ReadsW.tuple ho hc hd hr⟩
 | .float _,_,_,x,_=>by cases x
 | .dict _,_,_,x,_=>by cases x
 | .bytearray _,_,_,x,_=>by cases x
 | .set _,_,_,x,_=>by cases x
 | .frozenset _,_,_,x,_=>by cases x
 | .obj _ _,_,_,x,_=>by cases x
theorem Dw.readsAll (hok:HOk P w H h)(KX:K.In h):∀ (ds:List WData)(vs:List V)(us:List Value),zHW K H vs ds->Vals vs us->∃ as,ReadsAllW R cl h us ds as
 | [],_,_,x,r=>by cases x;cases r;exact ⟨_,ReadsAllW.nil⟩
 | d :: ds,_,_,x,r=>by
   cases x with
   | cons h1 h2 =>
     cases r with
     | cons r1 r2 =>obtain ⟨as,q1⟩:=Dw.reads hok KX d _ _ h1 r1;obtain ⟨bs,q2⟩:=Dw.readsAll hok KX ds _ _ h2 r2;exact ⟨_,ReadsAllW.cons q1 q2⟩
end
end
mutual
def plW:WData->Bool
 | .none=>true
 | .bool _=>true
 | .int _=>true
 | .str _=>true
 | .bytes _=>true
 | .list xs=>zQ7 xs
 | .tuple xs=>zQ7 xs
 | _=>false
def zQ7:List WData->Bool
 | []=>true
 | x :: r=>plW x && zQ7 r
end
theorem zO5 {α:Type}{f:α->WData}(h:∀ a,plW (f a)=true):∀ l:List α,zQ7 (l.map f)=true
 | []=>rfl
 | x :: r=>by show (plW (f x) && zQ7 (r.map f))=true;rw [h x,zO5 h r] <;> rfl
theorem zHH:∀ (c:Codec)(a:c.denote),plW (c.enc a)=true
 | .unit,_=>rfl
 | .bool,_=>rfl
 | .int _ _,_=>rfl
 | .nat _ _,_=>rfl
 | .u8,_=>rfl
 | .bytes _ _,_=>rfl
 | .text _ _ _ _,_=>rfl
 | .list _ _ c,a=>zO5 (fun x=>zHH c x) a
 | .pair c d,a=>by show (plW (c.enc a.1) && (plW (d.enc a.2) && true))=true;rw [zHH c a.1,zHH d a.2] <;> rfl
 | .triple c d e,a=>by show (plW (c.enc a.1) && (plW (d.enc a.2.1) && (plW (e.enc a.2.2) && true)))=true;rw [zHH c a.1,zHH d a.2.1,zHH e a.2.2] <;> rfl
 | .option c,none=>rfl
 | .option c,some x=>zHH c x
theorem zMe:∀ (cs:List Codec)(a:Codec.denoteAll cs),zQ7 (Codec.encAll cs a)=true
 | [],_=>rfl
 | c :: cs,a=>by show (plW (c.enc a.1) && zQ7 (Codec.encAll cs a.2))=true;rw [zHH c a.1,zMe cs a.2] <;> rfl
theorem zGm:∀ {xs:List WData}{d:WData},d∈xs->d.weight<=WData.weightAll xs
 | [],d,h=>absurd h (by simp)
 | x :: r,d,h=>by
   show d.weight<=x.weight+1+WData.weightAll r;rcases List.mem_cons.mp h with e | m
   . rw [e];omega
   . have z:=zGm m;omega
def toV:Value->V
 | .none=>.non
 | .bool b=>.bl b
 | .int i _=>.int i
 | .str x _=>.str x
 | .bytes b _=>.byt b
 | .ref a=>.ref a
 | _=>.non
def OkU (A:List Addr):Value->Prop
 | .none=>True
 | .bool _=>True
 | .int _ _=>True
 | .str _ _=>True
 | .bytes _ _=>True
 | .ref a=>a∈A
 | _=>False
theorem OkU.mono {A B:List Addr}(h:∀ a∈A,a∈B):∀ {u:Value},OkU A u->OkU B u:=fun {u} x=>by
 cases u with
 | ref a=>exact h a x
 | none=>trivial
 | bool b=>trivial
 | int i t=>trivial
 | str s t=>trivial
 | bytes b t=>trivial
 | _=>exact False.elim x
theorem zTn {A:List Addr}{u:Value}(x:OkU A u):RelV (toV u) u:=by
 cases u with
 | ref a=>rfl
 | none=>rfl
 | bool b=>rfl
 | int i t=>exact ⟨t,rfl⟩
 | str s t=>exact ⟨t,rfl⟩
 | bytes b t=>exact ⟨t,rfl⟩
 | _=>exact False.elim x
theorem zEo {A:List Addr}:∀ {vs:List Value},(∀ u∈vs,OkU A u)->Vals (vs.map toV) vs
 | [],_=>.nil
 | u :: r,h=>.cons (zTn (h u (List.mem_cons_self ..))) (zEo fun x hx=>h x (List.mem_cons_of_mem _ hx))
def zHX (h:Heap)(A:List Addr)(a:Addr):Prop:=∃ vs:List Value,vs.length<=sizeLine/\(∀ u∈vs,OkU A u)/\
 (h.get? a=some { cls:=.type "list",data:=.seq vs.toArray }\/h.get? a=some { cls:=.type "tuple",data:=.seq vs.toArray })
theorem zHX.mono {h:Heap}{A B:List Addr}{a:Addr}(k:∀ a∈A,a∈B)(x:zHX h A a):zHX h B a:=by obtain ⟨vs,h1,h2,h3⟩:=x;exact ⟨vs,h1,fun u hu=>(h2 u hu).mono k,h3⟩
theorem zCd {P:Params}{h:Heap}:∀ {vs:List Value}{ds:List WData},WellAll P h vs ds->vs.length=ds.length
 | _,_,.nil=>rfl
 | _,_,.cons _ b=>by show _+1=_+1;rw [zCd b]
theorem zMf {P:Params}{h:Heap}{v:Value}{ds:List WData}(x:Well P h v (.list ds)):∃ (a:Addr)(vs:List Value),v=.ref a/\h.get? a=some { cls:=.type "list",data:=.seq vs.toArray }/\WellAll P h vs ds:=by
 cases x with
 | list ho hall=>exact ⟨_,_,rfl,ho,hall⟩
theorem zKJ {P:Params}{h:Heap}{v:Value}{ds:List WData}(x:Well P h v (.tuple ds)):∃ (a:Addr)(vs:List Value),v=.ref a/\h.get? a=some { cls:=.type "tuple",data:=.seq vs.toArray }/\WellAll P h vs ds:=by
 cases x with
 | tuple ho hall=>exact ⟨_,_,rfl,ho,hall⟩
theorem zMg {P:Params}{h:Heap}{us:List Value}{d:WData}{ds:List WData}(x:WellAll P h us (d :: ds)):∃ (v:Value)(vs:List Value),us=v :: vs/\Well P h v d/\WellAll P h vs ds:=by
 cases x with
 | cons a b=>exact ⟨_,_,rfl,a,b⟩
theorem zRm {n:Nat}(h:n<=1048576):n<=sizeLine:=Nat.le_trans h (by decide)
section
variable {P:Params}{h:Heap}
mutual
theorem zTo:∀ (d:WData)(v:Value),Well P h v d->plW d=true->d.weight<=1048576->∃ A:List Addr,OkU A v/\∀ a∈A,zHX h A a
 | .none,_,x,_,_=>by cases x;exact ⟨[],trivial,fun a m=>absurd m (by simp)⟩
 | .bool b,_,x,_,_=>by cases x;exact ⟨[],trivial,fun a m=>absurd m (by simp)⟩
 | .int i,_,x,_,_=>by cases x;exact ⟨[],trivial,fun a m=>absurd m (by simp)⟩
 | .str s,_,x,_,_=>by cases x;exact ⟨[],trivial,fun a m=>absurd m (by simp)⟩
 | .bytes b,_,x,_,_=>by cases x;exact ⟨[],trivial,fun a m=>absurd m (by simp)⟩
 | .list ds,_,x,p,z=>by
   obtain ⟨a,vs,rfl,ho,hall⟩:=zMf x;have z2:WData.weightAll ds<=1048576:=z;obtain ⟨A,h1,h2⟩:=zHo ds _ hall p fun d hd=>Nat.le_trans (zGm hd) z2;have k:∀ b∈A,b∈a :: A:=fun b hb=>List.mem_cons_of_mem _ hb;refine ⟨a :: A,List.mem_cons_self ..,fun b hb=>?_⟩;rcases List.mem_cons.mp hb with e | m
   . rw [e];exact ⟨vs,zRm (by rw [zCd hall];exact Nat.le_trans (PySem.W.length_le_weightAllW ds) z2),fun u hu=>(h1 u hu).mono k,.inl ho⟩
   . exact (h2 b m).mono k
 | .tuple ds,_,x,p,z=>by
   obtain ⟨a,vs,rfl,ho,hall⟩:=zKJ x;have z2:WData.weightAll ds<=1048576:=z;obtain ⟨A,h1,h2⟩:=zHo ds _ hall p fun d hd=>Nat.le_trans (zGm hd) z2;have k:∀ b∈A,b∈a :: A:=fun b hb=>List.mem_cons_of_mem _ hb;refine ⟨a :: A,List.mem_cons_self ..,fun b hb=>?_⟩;rcases List.mem_cons.mp hb with e | m
   . rw [e];exact ⟨vs,zRm (by rw [zCd hall];exact Nat.le_trans (PySem.W.length_le_weightAllW ds) z2),fun u hu=>(h1 u hu).mono k,.inr ho⟩
   . exact (h2 b m).mono k
 | .float _,_,_,p,_=>Bool.noConfusion (show false=true from p)
 | .dict _,_,_,p,_=>Bool.noConfusion (show false=true from p)
 | .bytearray _,_,_,p,_=>Bool.noConfusion (show false=true from p)
 | .set _,_,_,p,_=>Bool.noConfusion (show false=true from p)
 | .frozenset _,_,_,p,_=>Bool.noConfusion (show false=true from p)
 | .obj _ _,_,_,p,_=>Bool.noConfusion (show false=true from p)
theorem zHo:∀ (ds:List WData)(vs:List Value),WellAll P h vs ds->zQ7 ds=true->(∀ d∈ds,d.weight<=1048576)->∃ A:List Addr,(∀ u∈vs,OkU A u)/\∀ a∈A,zHX h A a
 | [],_,x,_,_=>by cases x;exact ⟨[],fun u m=>absurd m (by simp),fun a m=>absurd m (by simp)⟩
 | d :: ds,_,x,p,z=>by
   obtain ⟨v,vs,rfl,x1,x2⟩:=zMg x;have q:plW d=true/\zQ7 ds=true:=Bool.and_eq_true_iff.mp p;obtain ⟨A,a1,a2⟩:=zTo d v x1 q.1 (z d (List.mem_cons_self ..));obtain ⟨B,b1,b2⟩:=zHo ds vs x2 q.2 fun e he=>z e (List.mem_cons_of_mem _ he);have kA:∀ b∈A,b∈A ++ B:=fun b hb=>List.mem_append.mpr (.inl hb);have kB:∀ b∈B,b∈A ++ B:=fun b hb=>List.mem_append.mpr (.inr hb);refine ⟨A ++ B,fun u hu=>?_,fun b hb=>?_⟩
   . rcases List.mem_cons.mp hu with e | m
     . rw [e];exact a1.mono kA
     . exact (b1 u m).mono kB
   . rcases List.mem_append.mp hb with m | m
     . exact (a2 b m).mono kA
     . exact (b2 b m).mono kB
end
end
def zYJ (o:Obj):Option HO:=match o.data with
 | .seq vs _=>if (o.cls == Value.type "list")=true then some (.frz o (.lst (vs.toList.map toV))) else some (.frz o (.tup (vs.toList.map toV)))
 | _=>none
def zLE (K:Fg)(h:Heap)(A:List Addr):Hp:=fun b=>if b∈A then (if (K.lookup b).isNone=true then (h.get? b).bind zYJ else none) else none
def zRn (H:Hp):Prop:=∀ b,H b=none\/∃ o u,H b=some (.frz o u)
theorem zO6 (vs:List Value):zYJ { cls:=.type "list",data:=.seq vs.toArray } = some (.frz { cls:=.type "list",data:=.seq vs.toArray } (.lst (vs.map toV))):=by show (if (Value.type "list" == Value.type "list")=true then some (HO.frz { cls:=.type "list",data:=.seq vs.toArray } (.lst (vs.toArray.toList.map toV))) else some (HO.frz { cls:=.type "list",data:=.seq vs.toArray } (.tup (vs.toArray.toList.map toV))))=_;rw [if_pos (beq_self_eq_true _)]
theorem zO7 (vs:List Value):zYJ { cls:=.type "tuple",data:=.seq vs.toArray } = some (.frz { cls:=.type "tuple",data:=.seq vs.toArray } (.tup (vs.map toV))):=by show (if (Value.type "tuple" == Value.type "list")=true then some (HO.frz { cls:=.type "tuple",data:=.seq vs.toArray } (.lst (vs.toArray.toList.map toV))) else some (HO.frz { cls:=.type "tuple",data:=.seq vs.toArray } (.tup (vs.toArray.toList.map toV))))=_;rw [if_neg (by decide)]
section
variable {P:Program}{w:World}{K:Fg}{h:Heap}{A:List Addr}
theorem zLF {b:Addr}{o:Obj}(hb:b∈A)(hk:K.lookup b=none)(e:h.get? b=some o):zLE K h A b=zYJ o:=by unfold zLE;rw [if_pos hb,hk,if_pos (show (none:Option Obj).isNone=true from rfl),e] <;> rfl
theorem zVi {b:Addr}{u:HO}(q:zLE K h A b=some u):b∈A/\K.lookup b=none:=by
 unfold zLE at q;by_cases hb:b∈A
 . rw [if_pos hb] at q;cases hk:K.lookup b with
   | none=>exact ⟨hb,rfl⟩
   | some o =>rw [hk,if_neg (by simp)] at q;cases q
 . rw [if_neg hb] at q;cases q
theorem zLG (ar:∀ a∈A,zHX h A a){b:Addr}{u:HO}(q:zLE K h A b=some u):K.lookup b=none/\∃ vs:List Value,vs.length<=sizeLine/\(∀ u∈vs,OkU A u)/\ ((h.get? b=some { cls:=.type "list",data:=.seq vs.toArray }/\u=.frz { cls:=.type "list",data:=.seq vs.toArray } (.lst (vs.map toV)))\/
    (h.get? b=some { cls:=.type "tuple",data:=.seq vs.toArray }/\u=.frz { cls:=.type "tuple",data:=.seq vs.toArray } (.tup (vs.map toV)))):=by
 obtain ⟨hb,hk⟩:=zVi q;obtain ⟨vs,h1,h2,h3⟩:=ar b hb;refine ⟨hk,vs,h1,h2,?_⟩;rcases h3 with e | e
 . rw [zLF hb hk e,zO6] at q;exact .inl ⟨e,(Option.some.inj q).symm⟩
 . rw [zLF hb hk e,zO7] at q;exact .inr ⟨e,(Option.some.inj q).symm⟩
theorem zRo (ar:∀ a∈A,zHX h A a):zRn (zLE K h A):=fun b=>by
 cases q:zLE K h A b with
 | none=>exact .inl rfl
 | some u =>
   obtain ⟨_,vs,_,_,⟨_,e⟩ | ⟨_,e⟩⟩:=zLG ar q
   . exact .inr ⟨_,_,by rw [e]⟩
   . exact .inr ⟨_,_,by rw [e]⟩
theorem zVj (ar:∀ a∈A,zHX h A a):HOk P w (zLE K h A) h:=fun b u q=>by
 obtain ⟨_,vs,h1,h2,⟨e,rfl⟩ | ⟨e,rfl⟩⟩:=zLG ar q
 . exact ⟨e,by rw [List.length_map];exact h1,vs,_,zEo h2,e⟩
 . exact ⟨e,by rw [List.length_map];exact h1,vs,zEo h2,_,e,rfl,_,rfl⟩
theorem zLH {c c' : Value}{vs us:List Value}(e:(some { cls:=c,data:=.seq vs.toArray }:Option Obj)=some { cls:=c',data:=.seq us.toArray }):c=c'/\vs=us:=by have e1:=Option.some.inj e;have e2:c=c':=congrArg Obj.cls e1;have e3:Data.seq vs.toArray=Data.seq us.toArray:=congrArg Obj.data e1;injection e3 with e4;refine ⟨e2,?_⟩;have e5:=congrArg Array.toList e4;simpa using e5
theorem zZV (KX:K.In h)(ar:∀ a∈A,zHX h A a){a:Addr}{vs:List Value}(ha:a∈A)(e:h.get? a=some { cls:=.type "list",data:=.seq vs.toArray }):(∀ u∈vs,OkU A u)/\SqL K (zLE K h A) a (vs.map toV):=by
 obtain ⟨us,h1,h2,h3⟩:=ar a ha;have hu:us=vs:=by
   rcases h3 with q | q
   . rw [e] at q;exact (zLH q).2.symm
   . rw [e] at q;exact absurd (Value.type.inj (zLH q).1) (by decide)
 subst hu;refine ⟨h2,?_⟩;cases hk:K.lookup a with
 | none=>exact .inl (.inr ⟨_,by rw [zLF ha hk e,zO6]⟩)
 | some o =>have e2:=KX a o hk;rw [e] at e2;obtain rfl:=Option.some.inj e2;exact .inr ⟨_,us.toArray,_,hk,rfl,rfl,rfl,by rw [List.size_toArray];exact h1,by simpa using zEo h2⟩
theorem zZW (KX:K.In h)(ar:∀ a∈A,zHX h A a){a:Addr}{vs:List Value}(ha:a∈A)(e:h.get? a=some { cls:=.type "tuple",data:=.seq vs.toArray }):(∀ u∈vs,OkU A u)/\SqT K (zLE K h A) a (vs.map toV):=by
 obtain ⟨us,h1,h2,h3⟩:=ar a ha;have hu:us=vs:=by
   rcases h3 with q | q
   . rw [e] at q;exact absurd (Value.type.inj (zLH q).1) (by decide)
   . rw [e] at q;exact (zLH q).2.symm
 subst hu;refine ⟨h2,?_⟩;cases hk:K.lookup a with
 | none=>exact .inl (.inr ⟨_,by rw [zLF ha hk e,zO7]⟩)
 | some o =>have e2:=KX a o hk;rw [e] at e2;obtain rfl:=Option.some.inj e2;exact .inr ⟨_,us.toArray,_,hk,rfl,rfl,by rw [List.size_toArray];exact h1,by simpa using zEo h2⟩
mutual
theorem zXT {Pm:Params}(KX:K.In h)(ar:∀ a∈A,zHX h A a):∀ (d:WData)(v:Value),Well Pm h v d->plW d=true->OkU A v->Dw K (zLE K h A) (toV v) d
 | .none,_,x,_,_=>by cases x;exact .non
 | .bool b,_,x,_,_=>by cases x;exact .bl b
 | .int i,_,x,_,_=>by cases x;exact .int i
 | .str s,_,x,_,_=>by cases x;exact .str s
 | .bytes b,_,x,_,_=>by cases x;have z:=Dw.byt (K:=K) (H:=zLE K h A) b.toArray;exact z
 | .list ds,_,x,p,hu=>by obtain ⟨a,vs,rfl,ho,hall⟩:=zMf x;obtain ⟨h2,hs⟩:=zZV KX ar hu ho;exact .lst hs (zO8 KX ar ds _ hall p h2)
 | .tuple ds,_,x,p,hu=>by obtain ⟨a,vs,rfl,ho,hall⟩:=zKJ x;obtain ⟨h2,hs⟩:=zZW KX ar hu ho;exact .tup hs (zO8 KX ar ds _ hall p h2)
 | .float _,_,_,p,_=>Bool.noConfusion (show false=true from p)
 | .dict _,_,_,p,_=>Bool.noConfusion (show false=true from p)
 | .bytearray _,_,_,p,_=>Bool.noConfusion (show false=true from p)
 | .set _,_,_,p,_=>Bool.noConfusion (show false=true from p)
 | .frozenset _,_,_,p,_=>Bool.noConfusion (show false=true from p)
 | .obj _ _,_,_,p,_=>Bool.noConfusion (show false=true from p)
theorem zO8 {Pm:Params}(KX:K.In h)(ar:∀ a∈A,zHX h A a):∀ (ds:List WData)(vs:List Value),WellAll Pm h vs ds->zQ7 ds=true->(∀ u∈vs,OkU A u)->zHW K (zLE K h A) (vs.map toV) ds
 | [],_,x,_,_=>by cases x;exact .nil
 | d :: ds,_,x,p,hu=>by obtain ⟨v,vs,rfl,x1,x2⟩:=zMg x;have q:plW d=true/\zQ7 ds=true:=Bool.and_eq_true_iff.mp p;exact .cons (zXT KX ar d v x1 q.1 (hu _ (List.mem_cons_self ..))) (zO8 KX ar ds vs x2 q.2 fun u m=>hu u (List.mem_cons_of_mem _ m))
end
end
theorem zRp {P:Program}{w:World}{K:Fg}{mg mb:Y3}{CX:CXT}{k:Nat}{fa:Addr}{fd:FuncData}{ps:List Str}{sp:Sp}{s₁:Shared}{vals:List Value}{ds:List WData}{R:PySem.W.WRecords}{cl:Str->Option Addr}{d0:WData}(KX:K.In s₁.heap)(hns:s₁.heap.Ns mainGlobals mg)(hb:s₁.heap.Ns builtinsNs mb)(hbb:∀ x:Str,x≠"__name__"->mb x=bootBuiltins x)(hlim:s₁.heap.NoLimit)(hg:s₁.gens = #[])(hwl:WellAll w.params s₁.heap vals ds)(hpl:zQ7 ds=true)(hwt:∀ d∈ds,d.weight<=1048576)(hr:zDi k callerA)(F:∀ base:Heap,K.In base->base.Ns mainGlobals mg->qM P w K mg base CX k fa fd ps sp)(hbind:∀ (s:Shared)(us:List Value),us.length=ps.length->BindsTo s fd ⟨us,[]⟩ (ps.zip us))(hlen:ds.length=ps.length)(hsp:∀ (H:Hp)(xs:List V),zRn H->zHW K H xs ds->sp xs H (fun v H'=>Dw K H' v d0) fun _ _ _=>False)(hCX:∀ H e s',CX [] H s₁ (fun _ _ _=>False) e s'->False) : codeAny (model P w) callerA (.call (.ref fa) ⟨vals,[]⟩) (fun r s'=>∃ u as,r=.ok (.ret u)/\ReadsW R cl s'.heap u d0 as/\OldK s₁.heap s'.heap/\s'.os=s₁.os/\AllBare s'.gens) s₁:=by
 obtain ⟨A,ho,ar⟩:=zHo ds vals hwl hpl hwt;have hO:zRn (zLE K s₁.heap A):=zRo ar;have hok:HOk P w (zLE K s₁.heap A) s₁.heap:=zVj ar;have hS:=zO8 KX ar ds vals hwl hpl ho;have hV:=zEo ho;have hK:∀ b u,zLE K s₁.heap A b=some u->K.lookup b=none:=fun b u q=>(zLG ar q).1;have noA:∀ {b:Addr}{o:Obj}{es:Array DictEntry}{ep:Nat},s₁.heap.get? b=some o->o.data=.dict es ep->zLE K s₁.heap A b=none:=fun {b o es ep} e d=>by
   cases q:zLE K s₁.heap A b with
   | none=>rfl
   | some u =>
     obtain ⟨_,vs,_,_,⟨e2,_⟩ | ⟨e2,_⟩⟩:=zLG ar q
     . rw [e2] at e;cases e;have d' : Data.seq vs.toArray _=Data.dict es ep:=d;cases d'
     . rw [e2] at e;cases e;have d' : Data.seq vs.toArray _=Data.dict es ep:=d;cases d'
 generalize zLE K s₁.heap A=H at hO hok hS hK noA;have base_of:∀ {b:Addr}{o:Obj},s₁.heap.get? b=some o->H b=none->(zTR s₁.heap H).get? b=some o:=fun e n=>zTS e n;have nsK:∀ {b:Addr}{m:Y3},s₁.heap.Ns b m->(zTR s₁.heap H).Ns b m:=fun {b m} ⟨o,es,ep,e,d,r⟩=>⟨o,es,ep,base_of e (noA e d),d,r⟩;have nK:∀ b o,K.lookup b=some o->H b=none:=fun b o e=>by
   cases q:H b with
   | none=>rfl
   | some u =>rw [hK b u q] at e;cases e
 have hKb:K.In (zTR s₁.heap H):=fun b o e=>base_of (KX b o e) (nK b o e);have hM:Mod K mg (zTR s₁.heap H):=⟨hKb,nsK hns,⟨mb,nsK hb,hbb⟩,let ⟨mc,h1,h2⟩:=hlim;⟨mc,nsK h1,h2⟩⟩;have e0:zTd P w K mg (zTR s₁.heap H) callerA [] s₁ H:=⟨rfl,hM,fun b o e=>zVR e,Nat.le_of_eq (zRA _ _),trivial,fun b hb=>absurd (show b∈([]:List Addr) from hb) (by simp),hok,.of_eq hg⟩;have hl:vals.length=ps.length:=by rw [zCd hwl];exact hlen
 refine codeAny_mono ((F _ hKb (nsK hns)).run callerA [] s₁ H ⟨vals,[]⟩ vals (vals.map toV) _ _ hr e0 (hbind s₁ vals hl) hV (hsp H _ hO hS)) fun r s' x=>?_;cases r with
 | error e=>exact (hCX H e s' x).elim
 | ok fl =>
   cases fl with
   | next=>exact False.elim x
   | brk=>exact False.elim x
   | cont=>exact False.elim x
   | ret u =>
     obtain ⟨v,H',os,bare,un,hok',r',q⟩:=x;have kept:∀ b o,s₁.heap.get? b=some o->s'.heap.get? b=some o:=fun b o e=>by
       cases q2:H b with
       | none=>exact un.keep b o e q2 (by intro z;exact absurd (show b∈([]:List Addr) from z) (by simp)) (by simp)
       | some u2 =>
         rcases hO b with z | ⟨ob,u3,z⟩
         . rw [q2] at z;cases z
         . have z2:=un.frzs b ob _ z;obtain ⟨e1,_⟩:=hok b _ z;obtain ⟨e2,_⟩:=hok' b _ z2;rw [e] at e1;cases e1;exact e2
     have KX' : K.In s'.heap:=fun b o e=>kept b o (KX b o e);obtain ⟨as,hrd⟩:=Dw.reads (R:=R) (cl:=cl) hok' KX' d0 v u q r';exact ⟨u,as,rfl,hrd,OldK.of_keep kept,os,bare⟩
theorem zJZ {ds:List WData}(h:WData.layableAll ds=true):∀ d∈ds,d.weight<=1048576:=fun d hd =>
 (PySem.W.layableW_iff.mp (List.all_eq_true.mp h d hd)).2.2
theorem zKK:∀ (cs:List Codec)(a:Codec.denoteAll cs),(Codec.encAll cs a).length=cs.length
 | [],_=>rfl
 | c :: cs,a=>by show (Codec.encAll cs a.2).length+1=cs.length+1;rw [zKK cs a.2]
theorem zRq {r:OpenSpec}{k:Nat}{q:Program}{loose:List Str}{XP:(Str->Option Value)->Heap->Prop}{YP:World->Heap->Prop}{d:DefRec}{K:Params->Fg}{CX:World->CXT}{ps:List Str}{sp:World->Sp}(hwell:r.wellSaid=true)(hdf:d.params.defaults=[])(hlen:r.args.length=ps.length)(hr:zDi k callerA)(hY:∀ (w:World)(h:Heap),YP w h->(K w.params).In h)(F:∀ (w:World)(mg:Y3)(fa:Addr)(h:Heap),YP w h->(K w.params).In h->h.Ns mainGlobals mg->mg d.name=some (.ref fa)->
     ∃ fd:FuncData,(∀ (s:Shared)(us:List Value),us.length=ps.length->BindsTo s fd ⟨us,[]⟩ (ps.zip us))/\
       ∀ base:Heap,(K w.params).In base->base.Ns mainGlobals mg->qM r.prog w (K w.params) mg base (CX w) k fa fd ps (sp w))
   (hsp:∀ (w:World)(H:Hp)(xs:List V)(a:Codec.denoteAll r.args),zRn H->Codec.withinAll r.args a=true->Codec.app r.args r.asked a=true->zHW (K w.params) H xs (Codec.encAll r.args a)->
     sp w xs H (fun v H'=>Dw (K w.params) H' v (r.ret.enc (Codec.app r.args r.f a))) fun _ _ _=>False)
   (hCX:∀ (w:World)(H:Hp)(s:Shared)(e:Value)(s' : Shared),CX w [] H s (fun _ _ _=>False) e s'->False) :
   PySem.W.WalkOS q loose XP YP r d [] (fun f vs=>PySem.call f vs):=by
 intro w s_0 s₁ mg mb G Y fa o pm cd doc dV kV ho hd hcd hD hmg hg args vals as hpre hlay hrd hwl hlo;obtain ⟨a,e1,e2⟩:=PySem.W.os_pre_some hpre;obtain ⟨e3,hwi⟩:=Codec.encAll_of_decAll r.args args a e1;subst e3;have KX:=hY w _ Y;obtain ⟨fd,hb,hF⟩:=F w mg fa _ Y KX G.T.g hmg;refine PySem.W.enter_call (codeAny_mono (zRp (R:=[]) (cl:=classAt s_0.heap) (d0:=r.ret.enc (Codec.app r.args r.f a)) KX G.T.g G.T.b G.T.builtins G.T.nolimit hg hwl (zMe _ _) (zJZ hlay) hr hF hb (by rw [zKK];exact hlen)
   (fun H xs hO hS=>hsp w H xs a hO hwi e2 hS) fun H e s'=>hCX w H s₁ e s') fun r' s' hq=>?_)
 obtain ⟨u,as',rfl,h1,h2,h3,h4⟩:=hq;exact ⟨.inl ⟨u,_,as',rfl,fun _=>rfl,h1,(OpenSpec.post_iff hwell hwi _ _).mpr rfl,fun z=>Bool.noConfusion (show false=true from z)⟩,h2,h3,h4⟩
theorem zQK {r:OpenSpec}{k:Nat}{q:Program}{loose:List Str}{XP:(Str->Option Value)->Heap->Prop}{YP:World->Heap->Prop}{d:DefRec}{K:Params->Fg}{CX:CXT}{ps:List Str}{sp:Fg->Sp}(hwell:r.wellSaid=true)(hdf:d.params.defaults=[])(hlen:r.args.length=ps.length)(hr:zDi k callerA)(hY:∀ (w:World)(h:Heap),YP w h->(K w.params).In h)(F:∀ (w:World)(mg:Y3)(fa:Addr)(h:Heap),YP w h->(K w.params).In h->h.Ns mainGlobals mg->mg d.name=some (.ref fa)->
     ∃ fd:FuncData,(∀ (s:Shared)(us:List Value),us.length=ps.length->BindsTo s fd ⟨us,[]⟩ (ps.zip us))/\
       ∀ base:Heap,(K w.params).In base->base.Ns mainGlobals mg->qM r.prog w (K w.params) mg base CX k fa fd ps (sp (K w.params)))
   (hsp:∀ (K:Fg)(H:Hp)(xs:List V)(a:Codec.denoteAll r.args),zRn H->Codec.withinAll r.args a=true->Codec.app r.args r.asked a=true->zHW K H xs (Codec.encAll r.args a)->
     sp K xs H (fun v H'=>Dw K H' v (r.ret.enc (Codec.app r.args r.f a))) fun _ _ _=>False)
   (hCX:∀ (H:Hp)(s:Shared)(e:Value)(s' : Shared),CX [] H s (fun _ _ _=>False) e s'->False) :
   PySem.W.WalkOS q loose XP YP r d [] (fun f vs=>PySem.call f vs) :=
 zRq (K:=K) (CX:=fun _=>CX) (sp:=fun w=>sp (K w.params)) hwell hdf hlen hr hY F (fun w H xs a h1 h2 h3 h4=>hsp (K w.params) H xs a h1 h2 h3 h4) fun _ H s e s'=>hCX H s e s'
end L2
end
namespace XC
open PySem PySem.Spec PyProof.Rows L2
def Rec (h:Heap)(e C d:Addr)(tb:Value):Prop:=∃ oe vs,h.get? e=some oe/\oe.cls=.ref C/\oe.dict=some d/\oe.data=.fields vs/\vs[1]? = some tb
def Ent (h:Heap)(T:Addr)(fl:Value):Prop:=∃ oT ts,h.get? T=some oT/\oT.data=.fields ts/\ts[3]? = some fl
structure Chg (fs ch:List Addr)(h h' : Heap):Prop where
 keep:∀ b o,h.get? b=some o->b∉fs->b∉ch->h'.get? b=some o
 slot:∀ b o,h.get? b=some o->b∉ch->∃ sl,h'.get? b=some { o with slots:=sl }
 sz:h.objs.size<=h'.objs.size
theorem Chg.trans {fs ch:List Addr}{h h1 h2:Heap}(a:Chg fs ch h h1)(b:Chg fs ch h1 h2):Chg fs ch h h2 where
 keep:=fun c o e h1 h2=>b.keep c o (a.keep c o e h1 h2) h1 h2
 slot:=fun c o e h2=>by obtain ⟨_,e1⟩:=a.slot c o e h2;obtain ⟨sl,e2⟩:=b.slot c _ e1 h2;exact ⟨sl,e2⟩
 sz:=Nat.le_trans a.sz b.sz
theorem Chg.mono {fs ch ch' : List Addr}{h h1:Heap}(a:Chg fs ch h h1)(s:∀ b∈ch,b∈ch'):Chg fs ch' h h1 where
 keep:=fun c o e h1 h2=>a.keep c o e h1 fun z=>h2 (s c z)
 slot:=fun c o e h2=>a.slot c o e fun z=>h2 (s c z)
 sz:=a.sz
theorem zIG {fs:List Addr}{h:Heap}{a:Addr}(f:Obj->Obj):Chg fs [a] h (h.update a f) where
 keep:=fun b o e _ hb=>by rw [Heap.get?_update_other h f (fun z=>hb (by simp [z]))];exact e
 slot:=fun b o e hb=>⟨o.slots,by rw [Heap.get?_update_other h f (fun z=>hb (by simp [z]))];exact e⟩
 sz:=by rw [Heap.size_after_update];exact Nat.le_refl _
theorem zO9 {fs ch:List Addr}{h:Heap}(o:Obj):Chg fs ch h (h.push o) where
 keep:=fun b u e _ _=>Heap.get?_push_of_some _ e
 slot:=fun b u e _=>⟨u.slots,Heap.get?_push_of_some _ e⟩
 sz:=by rw [Heap.size_push];omega
theorem zRr {fs ch:List Addr}{h h' : Heap}(x:Heap.SlotsOnly fs h h'):Chg fs ch h h' where
 keep:=fun b o e hb _=>(x.2.1 b hb).trans e
 slot:=fun b o e _=>x.2.2 b o e
 sz:=by rw [x.1];exact Nat.le_refl _
theorem Rec.set {h:Heap}{e C d:Addr}{tb:Value}(r:Rec h e C d tb)(v:Value):Rec (h.update e (Obj.mapFields (·.setIfInBounds 1 v))) e C d v:=by
 obtain ⟨oe,vs,he,hc,hd,hv,h1⟩:=r;have hd3:=Obj.data_mapFields hv (·.setIfInBounds 1 v);refine ⟨_,_,Heap.get?_update_self _ he (Obj.isFreed_of_fields hd3),(Obj.cls_mapFields _ _).trans hc,?_,hd3,?_⟩
 . obtain ⟨c0,d0,dt,sl⟩:=oe;cases dt <;> first | exact hd | cases hv
 . have:1 < vs.size:=(Array.getElem?_eq_some_iff.mp h1).1;simp [this]
theorem Rec.chg {fs ch:List Addr}{h h' : Heap}{e C d:Addr}{tb:Value}(r:Rec h e C d tb)(c:Chg fs ch h h')(ne:e∉ch):Rec h' e C d tb:=by obtain ⟨oe,vs,he,hc,hd,hv,h1⟩:=r;obtain ⟨sl,q⟩:=c.slot e oe he ne;exact ⟨_,vs,q,hc,hd,hv,h1⟩
theorem Ent.chg {fs ch:List Addr}{h h' : Heap}{T:Addr}{fl:Value}(r:Ent h T fl)(c:Chg fs ch h h')(ne:T∉ch):Ent h' T fl:=by obtain ⟨oT,ts,hT,hd,h3⟩:=r;obtain ⟨sl,q⟩:=c.slot T oT hT ne;exact ⟨_,ts,q,hd,h3⟩
theorem Ent.set {h:Heap}{T:Addr}{fl:Value}(r:Ent h T fl)(v:Value):Ent (h.update T (Obj.mapFields (·.setIfInBounds 3 v))) T v:=by obtain ⟨oT,ts,hT,hd,h3⟩:=r;have hd3:=Obj.data_mapFields hd (·.setIfInBounds 3 v);refine ⟨_,_,Heap.get?_update_self _ hT (Obj.isFreed_of_fields hd3),hd3,?_⟩;have:3 < ts.size:=(Array.getElem?_eq_some_iff.mp h3).1;simp [this]
section
variable {M:Model}{A:Around}{E:Y1}{s:Shared}
theorem entry {base:Heap}{env:Env}{outer:List Env}{L e C d:Addr}{tb head:Value}{hadNext:Bool}{Q:Unit->Shared->Prop}(hfr:A.frames=some (env :: outer))(hl:s.heap.FunFrames base (env :: outer))(hf:env.frame=some L)(r:Rec s.heap e C d tb)(h:∀ h' T,Chg (frs (env :: outer)) [e] s.heap h'->Rec h' e C d (.ref T)->s.heap.objs.size<=T->T < h'.objs.size->Ent h' T (rawInt L)->Q () { s with heap:=h' }) : wpAny M A (do let a <- frameOf env;let pl <- entryPlaceOf L hadNext;let b <- EntryCells.newEntry head a .none (rawInt L) .none pl;setField (.ref e) 1 b) Q E s:=by
 refine wpAny_bind (wpAny_frameOf_fun hfr hl hf fun h1 s1=>?_);refine wpAny_bind (wpAny_entryPlaceOf fun pl hpl=>?_);unfold EntryCells.newEntry newFields;refine wpAny_bind (wpAny_newObj_type ?_ (hpl.sizeOk5 _ _ _ _ _));have c1:Chg (frs (env :: outer)) [] s.heap h1:=zRr s1;have r1:=r.chg c1 (by simp);have r2:=r1.chg (fs:=[]) (ch:=[]) (zO9 { cls:=.type "traceback",dict:=none,data:=.fields ([head,.ref L,.none,rawInt L,.none] ++ (if pl.isEmpty then List.replicate 6 Value.none else pl)).toArray }) (by simp);obtain ⟨oe,vs,he,hc,hd,hv,hh⟩:=id r2;refine wpAny_setField he hv (Array.getElem?_eq_some_iff.mp hh).1 ?_;have lt:e < h1.objs.size:=by obtain ⟨_,_,q,_⟩:=r1;exact Heap.lt_size q
 have sz:s.heap.objs.size<=h1.objs.size:=c1.sz;refine h _ h1.objs.size ?_ (r2.set _) sz (by rw [Heap.size_after_update,Heap.size_push];exact Nat.lt_succ_self _) ?_
 . exact ((c1.mono (by simp)).trans (zO9 _)).trans (zIG _)
 . refine Ent.chg (fs:=[]) (ch:=[e]) ?_ (zIG _) (by simp;exact Nat.ne_of_gt lt);refine ⟨_,_,Heap.get?_push_size h1 rfl,rfl,?_⟩
   first | (simp;done) | (rcases hpl with rfl | ⟨_,_,_,_,_,_,_,rfl⟩ <;> simp)
theorem note {base:Heap}{env:Env}{outer:List Env}{L e C d:Addr}{tb:Value}{Q:Unit->Shared->Prop}(hfr:A.frames=some (env :: outer))(hl:s.heap.FunFrames base (env :: outer))(hf:env.frame=some L)(r:Rec s.heap e C d tb)(ht:tb=.none\/∃ T,tb=.ref T/\T≠e/\Ent s.heap T .none)(h:∀ h' T ch,Chg (frs (env :: outer)) (e :: ch) s.heap h'->(∀ b∈ch,tb=.ref b)->Rec h' e C d (.ref T)->s.heap.objs.size<=T->T≠e->Ent h' T (rawInt L)->Q () { s with heap:=h' }) : wpAny M A (noteFrame (.ref e) env) Q E s:=by
 obtain ⟨oe,vs,he,hc,hd,hv,hh⟩:=id r;have lt:e < s.heap.objs.size:=Heap.lt_size he;unfold noteFrame;simp only [hf];refine wpAny_bind (wpAny_field he hv hh ?_);rcases ht with rfl | ⟨T,rfl,ne,oT,ts,hT,hdT,h3⟩
 . rw [if_neg (by decide)];exact entry hfr hl hf r fun h' T c r' l _ en=>h h' T [] c (by simp) r' l (fun z=>absurd (Nat.lt_of_lt_of_le lt l) (by rw [z];exact Nat.lt_irrefl _)) en
 . rw [if_pos (show (Value.ref T != Value.none)=true from by simp)];refine wpAny_bind (wpAny_field hT hdT h3 ?_);rw [if_neg (show ¬ ((Value.none == rawInt L)=true) from by simp [rawInt])];refine wpAny_bind (wpAny_setField hT hdT (Array.getElem?_eq_some_iff.mp h3).1 ?_);have c0:Chg (frs (env :: outer)) [T] s.heap (s.heap.update T (Obj.mapFields (·.setIfInBounds 3 Value.none))):=zIG _;have r0:=r.chg c0 (by simp;exact fun z=>ne z.symm);refine entry (base:=base) (s:={ s with heap:=s.heap.update T (Obj.mapFields (·.setIfInBounds 3 Value.none)) }) hfr ?_ hf r0 fun h' T' c r' l _ en=>h h' T' [T] ?_ (by simp) r' ?_ ?_ en
   . refine hl.of_keeps fun b o ho hn=>⟨o,?_,rfl⟩;exact (Heap.get?_update_other s.heap _ (fun z=>by subst z;rw [hT] at ho;cases ho;exact hn ts hdT)).trans ho
   . exact (c0.mono (by simp)).trans (c.mono (by simp))
   . exact Nat.le_trans c0.sz l
   . have:e < _:=Nat.lt_of_lt_of_le lt c0.sz;intro z;rw [z] at l;exact absurd this (Nat.not_lt.mpr l)
theorem zRs {e C d T:Addr}{fl:Value}{Q:Unit->Shared->Prop}(r:Rec s.heap e C d (.ref T))(ne:T≠e)(en:Ent s.heap T fl)(h:∀ h',(∀ fs,Chg fs [T] s.heap h')->Rec h' e C d (.ref T)->Ent h' T .none->Q () { s with heap:=h' }):wpAny M A (setFlight (.ref e) none) Q E s:=by obtain ⟨oe,vs,he,hc,hd,hv,hh⟩:=id r;obtain ⟨oT,ts,hT,hdT,h3⟩:=id en;unfold setFlight;refine wpAny_bind (wpAny_field he hv hh ?_);rw [if_pos (show (Value.ref T != Value.none)=true from by simp)];refine wpAny_setField hT hdT (Array.getElem?_eq_some_iff.mp h3).1 (h _ (fun fs=>zIG _) ?_ (en.set _));exact r.chg (fs:=[]) (zIG _) (by simp;exact fun z=>ne z.symm)
theorem leave {base:Heap}{env:Env}{outer:List Env}{L e C d:Addr}{tb:Value}{Q:Unit->Shared->Prop}(hfr:A.frames=some (env :: outer))(hl:s.heap.FunFrames base (env :: outer))(hf:env.frame=some L)(r:Rec s.heap e C d tb)(ht:tb=.none\/∃ T,tb=.ref T/\T≠e/\Ent s.heap T .none)(h:∀ h' T ch,Chg (frs (env :: outer)) ch s.heap h'->(∀ b∈ch,b=e\/tb=.ref b\/b=T)->Rec h' e C d (.ref T)->s.heap.objs.size<=T->T≠e->Ent h' T .none->Q () { s with heap:=h' }) : wpAny M A (leaving env (.ref e)) Q E s:=by
 unfold leaving;refine wpAny_bind (note (base:=base) hfr hl hf r ht fun h1 T ch c1 k1 r1 l1 n1 e1=>?_);refine zRs (s:={ s with heap:=h1 }) r1 n1 e1 fun h2 c2 r2 e2=>h h2 T (T :: e :: ch) ((c1.mono (by simp;exact fun b hb=>.inr (.inr hb))).trans ((c2 _).mono (by simp))) (fun b hb=>?_) r2 l1 n1 e2;simp at hb;rcases hb with rfl | rfl | hb
 . exact .inr (.inr rfl)
 . exact .inl rfl
 . exact .inr (.inl (k1 b hb))
end
end XC
namespace XC
open PySem PySem.Spec PyProof.Rows L2
theorem zUu {fs fs2 ch:List Addr}{H H' : Hp}{h h1 h2:Heap}(u:Un fs [] H H' h h1)(c:Chg fs2 ch h1 h2)(hch:∀ b∈ch,h.get? b=none)(hfs:∀ b∈fs2,b∈fs\/h.get? b=none):Un fs [] H H' h h2:=by
 have nch:∀ b o,h.get? b=some o->b∉ch:=fun b o e z=>(by rw [hch b z] at e;cases e);refine ⟨fun b o e n hb hx=>c.keep b o (u.keep b o e n hb hx) (fun z=>?_) (nch b o e),fun b o e n hb hx=>?_,u.free,fun b o e hx=>?_,u.tups,u.frzs,u.tbls⟩
 . rcases hfs b z with q | q
   . exact hb q
   . rw [q] at e;cases e
 . obtain ⟨sl,e1⟩:=u.slot b o e n hb hx;obtain ⟨sl',e2⟩:=c.slot b _ e1 (nch b o e);exact ⟨sl',e2⟩
 . obtain ⟨o',e1⟩:=u.there b o e hx;obtain ⟨sl',e2⟩:=c.slot b _ e1 (nch b o e);exact ⟨_,e2⟩
theorem zRt {P:Program}{w:World}{fs ch:List Addr}{H:Hp}{h h' : Heap}(ok:HOk P w H h)(c:Chg fs ch h h')(n1:∀ b∈fs,H b=none)(n2:∀ b∈ch,H b=none):HOk P w H h':=fun a o e=>by
 have tr:∀ b u,H b=some u->b∉fs/\b∉ch:=fun b u q=>⟨fun z=>(by rw [n1 b z] at q;cases q),fun z=>(by rw [n2 b z] at q;cases q)⟩;refine (ok a o e).zMK (fun b u hb q=>?_) (fun _ q=>q) fun _ _ q=>q;rcases hb with rfl | hb
 . exact c.keep _ u q (tr _ _ e).1 (tr _ _ e).2
 . exact c.keep _ u q (tr _ _ hb).1 (tr _ _ hb).2
def CXe (P:Program)(w:World)(C:Addr):CXT:=fun outer H s E e s'=>∃ (a d T:Addr)(H' : Hp),e=.ref a/\s'.os=s.os/\AllBare s'.gens/\Un (frs outer) [] H H' s.heap s'.heap/\HOk P w H' s'.heap/\
 Rec s'.heap a C d (.ref T)/\T≠a/\Ent s'.heap T .none/\H' a=none/\H' T=none/\s.heap.get? a=none/\s.heap.get? T=none/\E (.ref C) (some d) H'
section
variable {P:Program}{w:World}{K:Fg}{mg:Y3}{base:Heap}{N:List Str}{qual:Str}{scope:Scope}{f C:Addr}{cd:Value}{A:Around}{outer:List Env}{s:Shared}{H:Hp}{E:XK}
theorem zXU {pins:Y2}{Z:L2.St}{H1:Hp}{s1:Shared}{a d:Addr}{tb:Value}(I:Inv (zKF (CXe P w C) P w K mg base N qual scope f cd A outer s H E) pins Z H1 s1)(r:Rec s1.heap a C d tb)(ht:tb=.none\/∃ T,tb=.ref T/\T≠a/\Ent s1.heap T .none)(na:H1 a=none)(la:s.heap.get? a=none)(nt:∀ T,tb=.ref T->H1 T=none/\s.heap.get? T=none)(q:E (.ref C) (some d) H1) : (zKF (CXe P w C) P w K mg base N qual scope f cd A outer s H E).xe (.ref a) s1:=by
 have hF:=I.stack;have hfree:=I.zKs;show wpAny (model P w) (A.deeper (envOfC qual scope s.heap.objs.size f cd)) (leaving (envOfC qual scope s.heap.objs.size f cd) (.ref a)) _ _ s1;refine leave (base:=base) I.ok.frames hF rfl r ht fun h' T ch c hch r' lT nT en=>?_;have lT0:s.heap.get? T=none:=Heap.get?_none_of_le (Nat.le_trans I.sz lT);have c1:∀ b∈ch,s.heap.get? b=none:=fun b hb=>by
   rcases hch b hb with z | z | z
   . rw [z];exact la
   . exact (nt b z).2
   . rw [z];exact lT0
 have c2:∀ b∈ch,H1 b=none:=fun b hb=>by
   rcases hch b hb with z | z | z
   . rw [z];exact na
   . exact (nt b z).1
   . rw [z];exact I.hok.fresh lT
 refine ⟨a,d,T,H1,rfl,I.os,I.bare,zUu I.base c c1 fun b hb=>?_,zRt I.hok c hfree c2,r',nT,en,na,I.hok.fresh lT,la,lT0,q⟩;have hb' : b∈s.heap.objs.size :: frs outer:=hb;rcases List.mem_cons.mp hb' with z | z
 . exact .inr (by rw [z];exact Heap.get?_none_of_le (Nat.le_refl _))
 . exact .inl z
theorem zTp:Passes (CXe P w C) (zKF (CXe P w C) P w K mg base N qual scope f cd A outer s H E) E:=by
 rintro pins Z H0 s0 e s' I ⟨a,d,T,H',rfl,os,bare,un,hok,r,ne,en,na,nT,la,lT,q⟩;have I' : Inv (zKF (CXe P w C) P w K mg base N qual scope f cd A outer s H E) pins Z H' s':=I.zVS (ch:=[]) os un hok bare (fun b z=>absurd z (by simp));have up:∀ b,s0.heap.get? b=none->s.heap.get? b=none:=fun b hb=>by
   cases z:s.heap.get? b with
   | none=>rfl
   | some o =>obtain ⟨o',e'⟩:=I.base.there b o z (fun q=>nomatch q);rw [hb] at e';cases e'
 exact zXU I' r (.inr ⟨T,rfl,ne,en⟩) na (up _ la) (fun T' z=>by cases z;exact ⟨nT,up _ lT⟩) q
end
theorem zRu {P:Program}{w:World}{H:Hp}{h:Heap}{a:Addr}{o:HO}(x:jj P w H h a o):∃ u,h.get? a=some u:=by
 cases o with
 | lst xs=>obtain ⟨_,_,_,_,e⟩:=x;exact ⟨_,e⟩
 | tup xs=>obtain ⟨_,_,_,ob,e,_⟩:=x;exact ⟨_,e⟩
 | dK kvs=>obtain ⟨_,_,_,_,o,_,_,e,_⟩:=x;exact ⟨_,e⟩
 | dT kvs=>obtain ⟨_,_,_,_,o,_,_,e,_⟩:=x;exact ⟨_,e⟩
 | set S n=>obtain ⟨o,_,_,_,e,_⟩:=x;exact ⟨_,e⟩
 | ins C dx fs=>obtain ⟨_,_,_,e,_⟩:=x;exact ⟨_,e⟩
 | own y=>exact x
 | xd fs=>obtain ⟨_,⟨_,_,_,e,_⟩,_⟩:=x;exact ⟨_,e⟩
 | rng lo hi=>obtain ⟨_,_,_,e⟩:=x;exact ⟨_,e⟩
 | frz ob u=>obtain ⟨e,_⟩:=x;exact ⟨_,e⟩
 | tbl ps=>exact ⟨_,x⟩
 | met f y=>exact ⟨_,x⟩
 | ext φ=>exact x.2.1
theorem zNr {P:Program}{w:World}{H:Hp}{h:Heap}{a:Addr}(x:HOk P w H h)(e:h.get? a=none):H a=none:=by
 cases q:H a with
 | none=>rfl
 | some o =>obtain ⟨u,z⟩:=zRu (x a o q);rw [e] at z;cases z
end XC
namespace XC
open PySem PySem.Spec PyProof.Rows L2
abbrev VEm:List Value:=[.type "ValueError",.type "Exception",.type "BaseException",.type "object"]
inductive zTP (h:Heap)(C fI:Addr)(at_:Str):Prop | m (N:Addr)(nm q:Str)(bs:List Value)(sn:List Str)(sub:List Value)(ab:Bool)(col:Option Bool)(dd:Option Addr)(k0 k1 k2 k3 k5:Option Value)(mN:Y3)(oI:Obj)(_:h.get? C=some (excClassObj nm q C N bs VEm true sn sub ab col dd k0 k1 k2 k3 k5 "ValueError.__new__"))(_:h.Ns N mN)(_:mN "__init__" = some (.ref fI))(_:h.get? fI=some oI)(_:oI.cls=.type "function"/\mN "__setattr__" = none/\mN "__getattribute__" = none/\mN "__getattr__" = none/\mN at_=none/\typeLookup (.type "ValueError") at_=pure none)
section
variable {prog:Program}{w:World}{A:Around}{E:Y1}{s:Shared}{C fI e d:Addr}{at_:Str}{v:Value}
theorem zTq {expr:Bool}{Q:Y1}{oe:Obj}{mA:Y3}(X:zTP s.heap C fI at_)(he:s.heap.get? e=some oe)(hc:oe.cls=.ref C)(hd:oe.dict=some d){vs:Array Value}(hv:oe.data=.fields vs)(hn:s.heap.Ns d mA)(hm:mA at_=some v)(hh:handedOut v=pure v)(hq:Q v { s with toks:=s.toks+1 }):wpAny (model prog w) A (getAttr (.ref e) at_ expr) Q E s:=by
 obtain ⟨h,g,dr,t,os⟩:=s;obtain ⟨N,nm,q,bs,sn,sub,ab,col,dd,k0,k1,k2,k3,k5,mN,oI,hC,hN,r1,r2,r3,ms,mg,mh,ma,hB⟩:=X;dsimp only at he hn hC hN hq r2;have FB:=F.attrBase_ValueError;have f3:=FB.ga.bind (.ref e);have hx0:(expr && onTheHeap (Value.builtin "BaseException.__getattribute__"))=false:=by cases expr <;> rfl
 have hx2:(Value.builtin "BaseException.__getattribute__" == Value.builtin "object.__getattribute__")=false:=(by decide +kernel);have hx1:(onTheHeap (Value.ref C) && Value.builtin "BaseException.__getattribute__" == Value.builtin "object.__getattribute__")=false:=by rw [hx2];rfl
 unfold getAttr getAttrBy
 repeat (any_goals (first | assumption | (with_reducible refine wpAny_loadPart_at he ?_;rw [hc]) | (with_reducible refine wpAny_typeLookup_exc hC hN FB.mro FB.ga.lookup ?_;rw [mg]) | (with_reducible refine wpAny_typeLookup_exc hC hN FB.mro FB.noGetattr ?_;rw [mh]) | wp_step))
 have hk:builtinKind "BaseException.__getattribute__" = some .slot:=(by decide +kernel);have hsp:splitId "BaseException.__getattribute__" = some ("BaseException","__getattribute__"):=by decide +kernel
 have hcB:(Value.ref C :: VEm).contains (.type "BaseException")=true:=(by rw [List.contains_cons,show VEm.contains (.type "BaseException")=true from by decide +kernel,Bool.or_true]);have ha:=F.args_bexc_ga (.ref e) (.str at_ t);refine codeAny_call_builtin FB.ga.plain F.entry_bexc_ga ?_;show wpAny (model prog w) _ (checkBuiltinCall "BaseException.__getattribute__" ⟨[.ref e,.str at_ t],[]⟩) _ _ _;simp only [checkBuiltinCall,hk,hsp];refine wpAny_bind ?_;unfold isInstance
 repeat (first | (with_reducible refine wpAny_loadPart_at he ?_;rw [hc]) | (with_reducible refine wpAny_isSubtype_exc hC ?_;rw [hcB]) | wp_step)
 refine wpAny_typeLookup_exc hC hN FB.mro hB ?_;rw [ma]
 repeat (first | (with_reducible refine wpAny_loadPart_at he ?_;rw [hc]) | with_reducible refine wpAny_loadPart_at hC ?_ | wp_step)
 rw [hv];unfold instanceDict
 repeat (first | (with_reducible refine wpAny_loadPart_at he ?_;rw [hc]) | with_reducible refine wpAny_loadPart_at hC ?_ | wp_step)
 rw [hd]
 repeat (first | (with_reducible refine wpAny_nsGet hn ?_;rw [hm]) | wp_step)
 exact hq
end
end XC
namespace XC
open PySem PySem.Spec PyProof.Rows L2
section
variable {prog:Program}{w:World}{A:Around}{E:Y1}{h:Heap}{g:Array GenState}{dr:Drawn}{t:Nat}{os:OsState}{C fI e t0 N:Addr}{name nm q:Str}{v:Value}
 {bs:List Value}{sn:List Str}{sub:List Value}{ab:Bool}{col:Option Bool}{dd:Option Addr}{k0 k1 k2 k3 k5:Option Value}{mN:Y3}{newId B sa owner:String}{bm:List Value}
theorem zRv {Q:Unit->Shared->Prop}{oe:Obj}{vs:Array Value}(SF:StoreFacts B bm sa owner)
  (hC:h.get? C=some (excClassObj nm q C N bs bm true sn sub ab col dd k0 k1 k2 k3 k5 newId)) (hN:h.Ns N mN) (ms:mN "__setattr__" = none) (ma:mN name=none)
  (hB:typeLookup (.type B) name=pure none) (he:h.get? e=some oe) (hc:oe.cls=.ref C) (hdn:oe.dict=none) (hdt:oe.data=.fields vs)
   (hq:∀ h' tk,(∀ b o,b≠e->h.get? b=some o->h'.get? b=some o)->h'.get? e=some { oe with dict:=some h.objs.size }->h'.Ns1 h.objs.size (fun y=>if y=name then some v else none)->Q () ⟨h',g,dr,tk,os⟩) :
   wpAny (model prog w) A (setAttr (.ref e) name v) Q E ⟨h,g,dr,t,os⟩:=by
 have f3:=SF.slot.bind (.ref e);have hpass:=SF.passes (.ref e);unfold setAttr callSpecial? specialOf
 repeat (any_goals (first | assumption | (with_reducible refine wpAny_loadPart_at he ?_;rw [hc]) | (with_reducible refine wpAny_typeLookup_exc hC hN SF.mro SF.slot.lookup ?_;rw [ms]) | wp_step))
 refine codeAny_call_builtin SF.slot.plain SF.entry (wpAny_check_sa SF hC he hc ?_);unfold Builtin.«object.__setattr__»
 repeat (first | rw [refuse_eq] | rw [refuseLoop_ref,hpass] | (with_reducible refine wpAny_loadPart_at he ?_;rw [hc]) | with_reducible refine wpAny_mroOf_exc hC ?_ | (with_reducible refine wpAny_typeLookup_exc hC hN SF.mro hB ?_;rw [ma]) | wp_step)
 rw [hdn,if_neg (by simp [typeHasDict]),hdt];have he1:(h.push { cls:=.type "dict",data:=.dict #[] }).get? e=some oe:=Heap.get?_push_of_some _ he;have ne:e≠h.objs.size:=Nat.ne_of_lt (Heap.lt_size he);refine wpAny_bind (wpAny_alloc' (wpAny_bind (wpAny_update' he1 (wpAny_pure ?_))));have gd:((h.push { cls:=.type "dict",data:=.dict #[] }).update e fun o=>{ cls:=o.cls,dict:=some h.objs.size,data:=o.data,slots:=o.slots }).Ns h.objs.size (fun _=>none) :=
   ⟨_,#[],_,(Heap.get?_update_ne _ _ _ _ ne.symm).trans (Heap.get?_push_at rfl rfl),rfl,fun x hx=>absurd hx (by simp),fun _=>rfl⟩
 show wpAny _ _ (Builtin.ObjectAttr.storeInDict h.objs.size (.str name t) name v) _ _ _;unfold Builtin.ObjectAttr.storeInDict Builtin.ObjectAttr.newKeyGuard;refine wpAny_bind (wpAny_pure (wpAny_bind (wpAny_nsSet1 (Heap.Ns1.of_empty gd) fun h' hn' hs=>?_)));obtain ⟨oD,esD,epD,hoD,hdD,hcD⟩:=hn'.count (Within.cons name v Within.nil);have hle:esD.size<=sizeLine:=Nat.le_trans hcD (by rw [List.length_cons,List.length_nil,sizeLine_eq];omega);refine wpAny_bind (wpAny_lookBehind hoD (by rw [hdD];exact pastItsLine_dict (Nat.le_succ_of_le hle)) ?_);have he2:h'.get? e=some { oe with dict:=some h.objs.size }:=by refine (hs.2 e ne).trans (Heap.get?_update_self _ he1 ?_);have hfr:=(Heap.get?_some_iff.mp he).2;obtain ⟨oc,od,odt,osl⟩:=oe;cases odt <;> first | rfl | exact hfr
 wp_walk
 exact hq h' _ (fun b ob hb e1=>(hs.2 b (Nat.ne_of_lt (Heap.lt_size e1))).trans ((Heap.get?_update_ne _ _ _ _ hb).trans (Heap.get?_push_of_some _ e1))) he2 hn'
end
abbrev zYK (C:Addr)(d:Option Addr)(t:Addr):Obj:={ cls:=.ref C,dict:=d,data:=.fields #[.ref t,.none,.none,.none,.bool false,.none] }
def ExcAt (C:Addr)(d:Option Addr)(t a:Addr):HO:=.ext fun h=>h.get? a=some (zYK C d t)
theorem zUv {P:Program}{w:World}{H:Hp}{h:Heap}{C t a:Addr}{d:Option Addr}(e:h.get? a=some (zYK C d t)):jj P w H h a (ExcAt C d t a):=⟨e,⟨_,e⟩,fun _ _ p k=>k _ p⟩
theorem zRw {P:Program}{w:World}{H:Hp}{h:Heap}{C t a:Addr}{d:Option Addr}(ok:HOk P w H h)(e:H a=some (ExcAt C d t a)):h.get? a=some (zYK C d t):=(ok a _ e).1
def drop (H:Hp)(a:Addr):Hp:=fun b=>if b=a then none else H b
theorem zFT {H:Hp}{a b:Addr}(h:b≠a):drop H a b=H b:=by unfold drop;rw [if_neg h]
theorem zF0 {H:Hp}{a:Addr}:drop H a a=none:=by unfold drop;rw [if_pos rfl]
theorem Ja {H:Hp}{a b:Addr}(h:H b=none):drop H a b=none:=by unfold drop;split <;> first | rfl | exact h
section
variable {X:Cx}{pins:Y2}{Z:L2.St}{H:Hp}{s:Shared}{C t a:Addr}{d:Option Addr}
theorem zTr (I:Inv X pins Z H s)(e:H a=some (ExcAt C d t a)):Inv X pins Z (drop H a) s:=by
 have nt:∀ b u,H b=some u->u≠ExcAt C d t a->drop H a b=some u:=fun b u q n=>by rw [zFT (fun z=>by subst z;rw [e] at q;exact n (Option.some.inj q).symm)];exact q
 refine ⟨I.ok,I.os,I.bare,⟨I.base.keep,I.base.slot,fun b o q n hx=>Ja (I.base.free b o q n hx),I.base.there,fun b xs q=>nt b _ (I.base.tups b xs q) (by intro z;cases z),fun b o u q=>nt b _ (I.base.frzs b o u q) (by intro z;cases z),fun b ps q=>?_⟩,I.loc,I.cell,Ja I.free,fun x c q=>Ja (I.freeC x c q),fun p hp=>?_,fun b o q=>?_,I.len⟩
 . obtain ⟨m,q1⟩:=I.base.tbls b ps q;exact ⟨m,nt b _ q1 (by intro z;cases z)⟩
 . obtain ⟨p1,p2,p3⟩:=I.pin p hp;exact ⟨p1,Ja p2,p3⟩
 . have hb:b≠a:=fun z=>by rw [z,zF0] at q;cases q
   rw [zFT hb] at q;exact (I.hok b o q).zMK (fun _ _ _ z=>z) (fun c z=>nt c _ z (by intro y;cases y)) fun c xs z=>nt c _ z (by intro y;cases y)
theorem zPA {h' : Heap}{o:HO}{t' : Nat}(I:Inv X pins Z H s)(k:∀ b u,s.heap.get? b=some u->h'.get? b=some u)(hp:s.heap.get? a=none)(new:jj X.prog X.w (upd H a o) h' a o) : Inv X pins Z (upd H a o) { s with heap:=h',toks:=t' }:=by
 have hn:=zNr I.hok hp;refine I.un ⟨fun b u q _ _ _=>k b u q,fun b u q _ _ _=>⟨u.slots,k b u q⟩,fun b u q n _=>?_,fun b u q _=>⟨u,k b u q⟩,fun b xs q=>?_,fun b u xs q=>?_,fun b ps q=>⟨#[],?_⟩⟩ fun b u q=>?_
 . rw [zF (fun z=>by rw [z,hp] at q;cases q)];exact n
 . rw [zF (zI q hn)];exact q
 . rw [zF (zI q hn)];exact q
 . rw [zF (zI q hn),q];simp
 . by_cases hb:b=a
   . subst hb;rw [zB] at q;cases q;exact new
   . rw [zF hb] at q;exact (I.hok b u q).zMK (fun c v _ z=>k c v z) (fun c z=>by rw [zF (zI z hn)];exact z) fun c xs z=>by rw [zF (zI z hn)];exact z
end
section
variable {X:Cx}{CX:CXT}{k:Nat}{C fI:Addr}{fd:FuncData}{ps:List Str}{sp:Sp}{E:XK}{x at_:Str}{p pos:Pos}{e:Expr}{te:TE}
def zPB (C:Addr)(sp:Sp)(E:XK)(te:TE):TE:=fun Z H Q=>te Z H fun v H1=>∀ a t,H1 a=none->sp [.ref a,v] (upd H1 a (ExcAt C none t a)) (fun r H2=>r=.non/\Q (.ref a) H2) E
theorem zRx {pins:Y2}{Z:L2.St}{H:Hp}{s:Shared}{Q:VK}{u:Value}{v:V}(Xc:zTP s.heap C fI at_)(F:qM X.prog X.w X.K X.mg X.base CX k fI fd ps sp)(hr:zDi (k+1) X.A)(hb:Binds X.K fd ps [])(hx:Passes CX X E)(I:Inv X pins Z H s)(r:RelV v u)(h:∀ a t,H a=none->sp [.ref a,v] (upd H a (ExcAt C none t a)) (fun r H2=>r=.non/\Q (.ref a) H2) E) : wpAny (model X.prog X.w) X.A (call (.ref C) [u]) (EP X pins Z Q) X.xe s:=by
 obtain ⟨N,nm,q,bs,sn,sub,ab,col,dd,k0,k1,k2,k3,k5,mN,oI,hC,hN,r1,r2,r3,ms,mg,mh,ma,hB⟩:=Xc;refine wpAny_call_exc_init PySem.F.excBase_ValueError hC hN r1 r2 r3 (fun h' a M=>?_) (by show 1<=sizeLine;rw [sizeLine_eq];decide);obtain ⟨t,ha,ht0,ht⟩:=M.there;have hq:=h a t (zNr I.hok M.new);have I2:Inv X pins Z (upd H a (ExcAt C none t a)) { s with heap:=h' }:=zPA (t':=s.toks) I M.keeps M.new (zUv ha);have r2:Vals [V.ref a,v] [Value.ref a,u]:=.cons rfl (.cons r .nil);have hl:([Value.ref a,u]:List Value).length=ps.length:=by have e:=r2.length;rw [F.len _ _ _ _ hq] at e;exact e.symm
 have bd:=hb { s with heap:=h' } [Value.ref a,u] I2.kIn (by rw [List.append_nil];exact hl);rw [List.append_nil] at bd;refine wpAny_call (codeAny_mono (F.run _ X.stack _ _ ⟨[Value.ref a,u],[]⟩ [Value.ref a,u] _ _ E (hr.make C [u] []) (I2.zW6.make C [u] []) bd r2 hq) fun r s' hq'=>?_);cases r with
 | error e=>exact hx pins Z _ _ e s' I2 hq'
 | ok fl =>
   cases fl with
   | ret w1 =>obtain ⟨v',H',I3,rv,ev,q3⟩:=I2.after hq';subst ev;exact ⟨rv,⟨V.ref a,H',I3,rfl,q3⟩⟩
   | next=>exact False.elim hq'
   | brk=>exact False.elim hq'
   | cont=>exact False.elim hq'
theorem zHp (Xc:∀ h,X.K.In h->zTP h C fI at_)(kp:PySem.W.keepIn X.K (.ref C)=true)(F:qM X.prog X.w X.K X.mg X.base CX k fI fd ps sp)(hr:zDi (k+1) X.A)(hg:Gl X x)(hm:X.mg x=some (.ref C))(hb:Binds X.K fd ps [])(hx:Passes CX X E)(he:PE X e te)(hdb:(x == ("__debug__" : Str))=false:=by decide)(hs:starEach [e] X.env=(false,eval e X.env) :: starEach [] X.env:=by rfl)(hpl:(backTo pos (starEach [] X.env)).any (·.1)=false:=by rfl) : PE X (.Call (.Name x p) [e] [] pos) (zPB C sp E te):=by
 intro pins s Z H Q I h;refine wpAny_Call_Name_kw (zDj I hg hm ?_ hdb);refine PySem.W.callWith_K (h₀:=X.base) I.ok.mod.kin kp (thn (zA he zD hs pos pins s Z H (fun vs H1=>match vs with | [v]=>∀ a t,H1 a=none->sp [.ref a,v] (upd H1 a (ExcAt C none t a)) (fun r H2=>r=.non/\Q (.ref a) H2) E | _=>False) I h) fun us s1 ⟨vs,H1,I1,r,q⟩=>⟨I1.kIn,?_⟩) hs hpl;cases r with
 | nil=>exact False.elim q
 | cons r1 r2 =>
   cases r2 with
   | nil=>exact zRx (Xc _ I1.kIn) F hr hb hx I1 r1 q
   | cons _ _=>exact False.elim q
end
end XC
namespace XC
open PySem PySem.Spec PyProof.Rows L2
section
variable {X:Cx}{C fI:Addr}{o value:Expr}{f:Str}{pos pos' : Pos}{ta tv:TE}
def zXV (C:Addr)(ta tv:TE)(f:Str):TS:=fun D Z H=>tv Z H fun y H1=>ta Z H1 fun x H2=>∃ a t,x=.ref a/\H2 a=some (ExcAt C none t a)/\
 ∀ d,H2 d=none->d≠a->D.nx Z (upd (upd H2 d (.xd [(f,y)])) a (ExcAt C (some d) t a))
theorem zVk (Xc:∀ h,X.K.In h->zTP h C fI f)(ha:PE X o ta)(hv:PE X value tv)(hs:swapsWith value (some (.Attribute o f pos')) pos.line X.env=pure false) : PS X (.Assign [.Attribute o f pos'] value pos) (zXV C ta tv f):=by
 intro pins s Z H D I h;refine plainObj_wpAny_Assign_Attribute (thn (hv pins s Z H _ I h) fun u s1 ⟨y,H1,I1,ry,q⟩=>thn (ha pins s1 Z H1 _ I1 q) fun ov s2 ⟨x,H2,I2,rx,a,t,ex,ea,q2⟩=>?_) hs;subst ex;obtain rfl:ov=Value.ref a:=rx;obtain ⟨N,nm,qn,bs,sn,sub,ab,col,dd,k0,k1,k2,k3,k5,mN,oI,hC,hN,r1,r2,r3,ms,mg,mh,ma,hB⟩:=Xc _ I2.kIn;have he:=zRw I2.hok ea;obtain ⟨hp,g,dr,tk,os⟩:=s2;refine zRv PySem.F.store_ValueError hC hN ms ma hB he rfl rfl rfl fun h' tk' keep e' ns=>?_;have dn:H2 hp.objs.size=none:=I2.hok.fresh (Nat.le_refl _);have da:hp.objs.size≠a:=fun z=>absurd (Heap.lt_size he) (by rw [<- z];exact Nat.lt_irrefl _);refine ⟨Z,_,?_,q2 hp.objs.size dn da⟩;have ne:∀ b w1,H2 b=some w1->w1≠ExcAt C none t a->b≠a:=fun b w1 q n z=>by subst z;rw [ea] at q;exact n (Option.some.inj q).symm
 have up:∀ b w1,H2 b=some w1->b≠a->upd (upd H2 hp.objs.size (.xd [(f,y)])) a (ExcAt C (some hp.objs.size) t a) b=some w1:=fun b w1 q n=>by rw [zF n,zF (zI q dn)];exact q
 refine I2.un (h':=h') (t':=tk') ⟨fun b w1 q n _ _=>keep b w1 (fun z=>by rw [z,ea] at n;cases n) q,fun b w1 q n _ _=>⟨w1.slots,keep b w1 (fun z=>by rw [z,ea] at n;cases n) q⟩,fun b w1 q n _=>?_,fun b w1 q _=>?_,
   fun b xs q=>up b _ q (ne b _ q (by intro z;cases z)),fun b o' u' q=>up b _ q (ne b _ q (by intro z;cases z)),fun b ps q=>⟨#[],by rw [up b _ q (ne b _ q (by intro z;cases z))];simp⟩⟩ fun b w1 q=>?_
 . rw [zF (fun z=>by rw [z,ea] at n;cases n),zF (fun z=>absurd (Heap.lt_size q) (by rw [z];exact Nat.lt_irrefl _))];exact n
 . by_cases hb:b=a
   . subst hb;exact ⟨_,e'⟩
   . exact ⟨w1,keep b w1 hb q⟩
 . by_cases hb:b=a
   . subst hb;rw [zB] at q;cases q;exact zUv e'
   . rw [zF hb] at q;by_cases hd:b=hp.objs.size
     . subst hd;rw [zB] at q;cases q;refine ⟨_,ns,fun g'=>?_⟩;by_cases hg:g' = f
       . have hb' : (g' == f)=true:=beq_iff_eq.mpr hg;simp only [List.lookup,hb',if_pos hg];exact ry
       . have hb' : (g' == f)=false:=beq_eq_false_iff_ne.mpr hg;simp only [List.lookup,hb',if_neg hg];exact True.intro
     . rw [zF hd] at q;refine (I2.hok b w1 q).zMK (fun c v hc z=>keep c v ?_ z) (fun c z=>up c _ z (ne c _ z (by intro y;cases y))) fun c xs z=>up c _ z (ne c _ z (by intro y;cases y));rcases hc with rfl | hc
       . exact hb
       . exact ne c _ hc (by intro y;cases y)
end
section
variable {M:Model}{A:Around}{E:Y1}{env:Env}{nm q:Str}{C N:Addr}{bs bm:List Value}{hdct:Bool}{sn:List Str}{sub:List Value}{ab:Bool}{col:Option Bool}{dd:Option Addr}{k0 k1 k2 k3 k5:Option Value}{newId:String}
theorem zQL {s:Shared}{x:Sem Value}{Q:Flow->Shared->Prop}(hbase:bm.contains (.type "BaseException")=true)(hh:A.handled=none)(h:wpAny M A x (fun v s1=>∃ e d t,v=.ref e/\s1.heap.get? C=some (excClassObj nm q C N bs bm hdct sn sub ab col dd k0 k1 k2 k3 k5 newId)/\s1.heap.get? e=some (zYK C d t)/\E (.ref e) s1) E s) : wpAny M A (raiseStmt env (some x) none) Q E s:=by
 have hcB:(Value.ref C :: bm).contains (.type "BaseException")=true:=(by rw [List.contains_cons,hbase,Bool.or_true]);unfold raiseStmt;refine wpAny_bind (wpAny_mono h (fun v s1 h1=>?_) fun _ _ z=>z);obtain ⟨e,d,t,rfl,hC,he,hE⟩:=h1;obtain ⟨hp,g,dr,tk,os⟩:=s1
 repeat (first | with_reducible refine wpAny_loadPart_at he ?_ | with_reducible refine wpAny_loadPart_at hC ?_ | (with_reducible refine wpAny_isSubtype_exc hC ?_;rw [hcB]) | wp_step)
 exact wpAny_raiseNew_none hh hE
end
section
variable {P:Program}{w:World}{K:Fg}{mg:Y3}{base:Heap}{N:List Str}{qual:Str}{scope:Scope}{f C fI:Addr}{cd:Value}{A:Around}{outer:List Env}{s:Shared}{H0:Hp}{E:XK}{at_:Str}{e:Expr}{te:TE}{pos:Pos}
def zPC (C:Addr)(H0:Hp)(E:XK)(te:TE):TS:=fun _ Z H=>te Z H fun v H1=>∃ a d t,v=.ref a/\H1 a=some (ExcAt C (some d) t a)/\H0 a=none/\E (.ref C) (some d) (drop H1 a)
theorem zHq (Xc:∀ h,K.In h->zTP h C fI at_)(he:PE (zKF (CXe P w C) P w K mg base N qual scope f cd A outer s H0 E) e te) : PS (zKF (CXe P w C) P w K mg base N qual scope f cd A outer s H0 E) (.Raise (some e) none pos) (zPC C H0 E te):=by
 intro pins s1 Z H D I h;rw [arm_exec_Raise];simp only [evalOpt,Option.map];have hin:∀ s2,(∃ H2 pins2 σ2,Inv (zKF (CXe P w C) P w K mg base N qual scope f cd A outer s H0 E) pins2 σ2 H2 s2)->K.In s2.heap:=fun s2 ⟨_,_,_,I2⟩=>I2.kIn;obtain ⟨Nn,nm,qn,bs,sn,sub,ab,col,dd,k0,k1,k2,k3,k5,mN,oI,hC,_⟩:=Xc _ I.ok.mod.kin;refine wpAny_bind (wpAny_standAt (zQL (C:=C) (nm:=nm) (q:=qn) (N:=Nn) (bs:=bs) (bm:=VEm) (hdct:=true) (sn:=sn) (sub:=sub) (ab:=ab) (col:=col) (dd:=dd) (k0:=k0) (k1:=k1) (k2:=k2) (k3:=k3) (k5:=k5) (newId := "ValueError.__new__") (by decide +kernel) (I.ok.hd rfl) (wpAny_bind ?_)));refine thn (he pins s1 Z H _ I h) fun u s2 ⟨v,H1,I1,r,a,d,t,ev,ea,n0,q⟩=>wpAny_bind (wpAny_standAt (wpAny_pure ?_));subst ev;obtain rfl:u=Value.ref a:=r;have hea:=zRw I1.hok ea;refine ⟨a,some d,t,rfl,I1.bk _ _ hC,hea,?_⟩;have la:s.heap.get? a=none:=by
   cases z:s.heap.get? a with
   | none=>rfl
   | some o' =>have:=I1.base.free a o' z n0 (fun y=>nomatch y);rw [ea] at this;cases this
 exact zXU (zTr I1 ea) ⟨_,_,hea,rfl,rfl,rfl,rfl⟩ (.inl rfl) zF0 la (fun T z=>nomatch z) q
end
end XC
namespace XC
open PySem PySem.Spec PyProof.Rows L2
structure zCC (k:Nat)(A:Around):Prop where
 dp:A.depth+3 * k+5 < recursionLimit
 un:A.units+16 * k+200 < cLine
theorem zXW {k:Nat}{A:Around}(r:zDi k A):zCC k A:=⟨r.dp,r.un⟩
theorem zCC.mono {j k:Nat}{A:Around}(r:zCC k A)(h:j<=k):zCC j A:=⟨by have:=r.dp;omega,by have:=r.un;omega⟩
theorem zCC.deeper {k:Nat}{A:Around}(r:zCC (k+1) A)(env:Env):zCC k (A.deeper env) :=
 ⟨by have:=r.dp;show A.depth+1+3 * k+5 < _;omega,by have:=r.un;show A.units+3+16 * k+200 < _;omega⟩
theorem zCC.make {k:Nat}{A:Around}(r:zCC (k+1) A)(C:Addr)(us:List Value)(kw:List (Str×Value)):zCC k (A.under (.builtin "type.__call__" ⟨.ref C :: us,kw⟩)) :=
 ⟨by have:=r.dp;rw [zKD];omega,by have:=r.un;rw [zKE];omega⟩
theorem zCC.depth {k:Nat}{A:Around}(r:zCC k A):A.depth < recursionLimit:=by have:=r.dp;omega
structure zNs (P:Program)(w:World)(K:Fg)(mg:Y3)(base:Heap)(CX:CXT)(k:Nat)(f:Addr)(fd:FuncData)(ps:List Str)(sp:Sp):Prop where
 len:∀ vs H Q E,sp vs H Q E->vs.length=ps.length
 run:∀ (A:Around)(outer:List Env)(s:Shared)(H:Hp)(args:Args)(us:List Value)(vs:List V)(Q:VK)(E:XK),zCC k A->zTd P w K mg base A outer s H->BindsTo s fd args (ps.zip us)->Vals vs us->sp vs H Q E->
   codeAny (model P w) A (.call (.ref f) args) (CR CX outer P w H s Q E) s
theorem zNs.fn {P:Program}{w:World}{K:Fg}{mg:Y3}{base:Heap}{CX:CXT}{k:Nat}{f:Addr}{fd:FuncData}{ps:List Str}{sp:Sp}(F:zNs P w K mg base CX k f fd ps sp):qM P w K mg base CX k f fd ps sp :=
 ⟨F.len,fun A outer s H args us vs Q E hr=>F.run A outer s H args us vs Q E (zXW hr)⟩
section
variable {P:Program}{w:World}{K:Fg}{mg:Y3}{base:Heap}
def cxH (P:Program)(w:World)(K:Fg)(mg:Y3)(base:Heap)(N:List Str)(qual:Str)(scope:Scope)(f:Addr)(cd:Value)(A:Around)(outer:List Env)(s:Shared)(H:Hp):Cx :=
 { zKF CX0 P w K mg base N qual scope f cd A outer s H E0 with calm:=false,xe:=fun _ _=>False }
theorem zYg {N:List Str}{qual:Str}{scope:Scope}{f:Addr}{cd:Value}{A A' : Around}{outer:List Env}{s s1:Shared}{H H1:Hp}{E:XK}{pins:Y2}{Z:L2.St}(I:Inv (zKF CX0 P w K mg base N qual scope f cd A' outer s H E) pins Z H1 s1)(e:(A.deeper (envOfC qual scope s.heap.objs.size f cd)).frames=some (envOfC qual scope s.heap.objs.size f cd :: outer)) : Inv (cxH P w K mg base N qual scope f cd A outer s H) pins Z H1 s1 :=
 ⟨⟨I.ok.mod,I.ok.kind,I.ok.glob,I.ok.blt,I.ok.above,I.ok.inj,I.ok.has,I.ok.cab,fun z=>(nomatch z),e,I.ok.stk,I.ok.exf,I.ok.bs,I.ok.bsz,I.ok.noex,I.ok.exfs,I.ok.zML,I.ok.frf⟩,I.os,I.bare,I.base,I.loc,I.cell,I.free,I.freeC,I.pin,I.hok,I.len⟩
theorem okH {x qual:Str}{st:Stmt}{f:Addr}{fd:FuncData}{N ps:List Str}{k:Nat}{sp:Sp}(F:Fun K x qual st f fd)(S:zL N ps (zH st))(len:∀ vs H Q E,sp vs H Q E->vs.length=ps.length)(hbody:∀ (cdv:Value)(A:Around)(outer:List Env)(s:Shared)(H:Hp)(vs:List V)(Q:VK)(E:XK),zCC k (A.deeper (envOfC qual (zH st) s.heap.objs.size f cdv))->sp vs H Q E->
     ∃ t,PSs (cxH P w K mg base N qual (zH st) f cdv A outer s H) (jq st) t/\t { nx:=fun _ H'=>Q .non H',rt:=Q } (L2.start N vs) H):zNs P w K mg base CX0 (k+1) f fd ps sp:=by
 obtain ⟨oc,od,kV,doc,pm,an,cdv,ct,osl,rfl,lk,hcd⟩:=F.ex;refine ⟨len,fun A outer s H args us vs Q E hr e0 hb r hsp=>?_⟩;have hl:=len _ _ _ _ hsp;have KX:K.In s.heap:=e0.mod.kin.keeps fun b o e=>(e0.bs b o e).1;have lim:s.heap.NoLimit:=e0.mod.nolimit.keeps fun b o e=>(e0.bs b o e).1;have hkind:∀ y∈ps.zip us,(zH st).names.lookup y.1=some .local\/((zH st).names.lookup y.1=some .cell/\((cellsFrom (s.heap.objs.size+1) (zH st).names []).lookup y.1).isSome=true):=fun ⟨n,v⟩ hy=>by
   rcases S.par n (List.of_mem_zip hy).1 with q | q
   . exact .inl q
   . exact .inr ⟨q,PySem.W.cellsFrom_some _ _ _ (.inl q)⟩
 refine codeAny_call_function hr.depth (KX _ _ lk) rfl S.co S.gen rfl (PySem.W.codeRec_of KX hcd) (hb _ _ _ _ ?_);refine wpAny_newFunctionEnv_cells S.kind hkind fun env he s1 x=>?_;subst he;refine ⟨lim.keeps x.toInCall.keep,codeAny_func ?_⟩;obtain ⟨t,ht,hq⟩:=hbody cdv A outer s H vs Q E (hr.deeper _) hsp;have e0' : zTd P w K mg base { A with handled:=none } outer s H:=⟨e0.frames,e0.mod,e0.bs,e0.bsz,e0.zML,e0.frf,e0.hok,e0.bare⟩;have I:=zYg (A:=A) (zMY (CX:=CX0) (E:=E) S rfl e0' hl r x) (Around.frames_deeper e0.frames);refine wpAny_mono (ht [] s1 (L2.start N vs) H _ I hq) (fun fl s' hs=>?_) fun e s' hs=>hs.elim;have fin:∀ {Z' : L2.St}{H' : Hp}{v:V}{u:Value},Inv (cxH P w K mg base N qual (zH st) f cdv A outer s H) [] Z' H' s'->RelV v u->Q v H'->CE outer P w H s Q u s' :=
   fun {Z' H' v u} J rv q=>⟨v,H',J.os,J.bare,J.base,J.hok,rv,q⟩
 cases fl with
 | ret u =>obtain ⟨v,Z',H',J,rv,q⟩:=hs;exact fin J rv q
 | next =>obtain ⟨Z',H',J,q⟩:=hs;exact fin (v:=V.non) (u:=Value.none) J rfl q
 | brk =>obtain ⟨_,_,_,q⟩:=hs;exact False.elim q
 | cont =>obtain ⟨_,_,_,q⟩:=hs;exact False.elim q
end
section
variable {X:Cx}{k:Nat}{f C:Addr}{fd:FuncData}{ps:List Str}{sp:Sp}{x:Str}{p pos:Pos}{e:Expr}{es:List Expr}{t:TA}
theorem zTs (M:Mk X.K C f)(F:zNs X.prog X.w X.K X.mg X.base CX0 k f fd ps sp)(hr:zCC (k+1) X.A)(hg:Gl X x)(hm:X.mg x=some (.ref C))(hb:Binds X.K fd ps [])(ha:PA X (e :: es) t)(hdb:(x == ("__debug__" : Str))=false:=by decide)(he:starEach (e :: es) X.env=(false,eval e X.env) :: starEach es X.env:=by rfl)(hpl:(backTo pos (starEach es X.env)).any (·.1)=false:=by rfl) : PE X (.Call (.Name x p) (e :: es) [] pos) (zP9 C sp [] E0 t):=by
 intro pins s Z H Q I h;refine wpAny_Call_Name_kw (zDj I hg hm ?_ hdb);refine PySem.W.callWith_K (h₀:=X.base) I.ok.mod.kin M.kp (thn (ha pos pins s Z H _ I h) fun us s1 ⟨vs,H1,I1,r,h1⟩=>⟨I1.kIn,?_⟩) he hpl;have hq:=h1 (s1.heap.objs.size+1) s1.heap.objs.size (I1.hok.fresh (Nat.le_succ _)) (I1.hok.fresh (Nat.le_refl _)) (Nat.ne_of_lt (Nat.lt_succ_self _));rw [List.append_nil] at hq;have I2:=Inv.made (C:=C) I1;have r2:Vals (V.ref (s1.heap.objs.size+1) :: vs) (Value.ref (s1.heap.objs.size+1) :: us):=.cons rfl r;have hl:(Value.ref (s1.heap.objs.size+1) :: us).length=ps.length:=by have e:=r2.length;rw [F.len _ _ _ _ hq] at e;exact e.symm
 have bd:=hb { s1 with heap:=(s1.heap.push PySem.W.emptyDict).push (PySem.W.instObj C s1.heap.objs.size) } (Value.ref (s1.heap.objs.size+1) :: us) I2.kIn (by rw [List.append_nil];exact hl);rw [List.append_nil] at bd;refine wpAny_call (zOt (f:=f) I1.kIn M.makes M.init (beq_iff_eq.mp M.fn) (codeAny_mono (F.run _ X.stack _ _ ⟨Value.ref (s1.heap.objs.size+1) :: us,[]⟩ _ _ _ E0 (hr.make C us []) (I2.zW6.make C us []) bd r2 hq) fun r s' hq'=>?_));cases r with
 | error e=>exact False.elim hq'
 | ok fl =>
   cases fl with
   | ret u =>obtain ⟨v,H',I3,rv,ev,q3⟩:=I2.after hq';subst ev;exact ⟨rv,⟨V.ref (s1.heap.objs.size+1),H',I3,rfl,q3⟩⟩
   | next=>exact False.elim hq'
   | brk=>exact False.elim hq'
   | cont=>exact False.elim hq'
end
end XC
namespace XC
open PySem PySem.Spec PyProof.Rows L2
abbrev zVl (X:Cx)(pn:Y2)(E:Y1):Cx:={ X with pn:=pn,xe:=E }
abbrev held (X:Cx)(e:Addr):Cx:={ X with A:=X.A.mark (some (.ref e)),calm:=false,xe:=fun _ _=>False }
theorem zVm {X:Cx}{pn:Y2}{E:Y1}(ok:X.Ok):(zVl X pn E).Ok :=
 ⟨ok.mod,ok.kind,ok.glob,ok.blt,ok.above,ok.inj,ok.has,ok.cab,ok.hd,ok.frames,ok.stk,ok.exf,ok.bs,ok.bsz,ok.noex,ok.exfs,ok.zML,ok.frf⟩
theorem zRy {X:Cx}{pn:Y2}{E:Y1}(ok:(zVl X pn E).Ok):X.Ok :=
 ⟨ok.mod,ok.kind,ok.glob,ok.blt,ok.above,ok.inj,ok.has,ok.cab,ok.hd,ok.frames,ok.stk,ok.exf,ok.bs,ok.bsz,ok.noex,ok.exfs,ok.zML,ok.frf⟩
theorem zVn {X:Cx}{e:Addr}(ok:X.Ok):(held X e).Ok :=
 ⟨ok.mod,ok.kind,ok.glob,ok.blt,ok.above,ok.inj,ok.has,ok.cab,fun z=>(nomatch z),ok.frames,ok.stk,ok.exf,ok.bs,ok.bsz,ok.noex,ok.exfs,ok.zML,ok.frf⟩
section
variable {X:Cx}{pins pins2:Y2}{Z σ2:L2.St}{H H2:Hp}{s s2:Shared}{E:Y1}{e:Addr}
theorem zTt (I:Inv X pins Z H s):Inv (zVl X (X.pn ++ pins) E) [] Z H s :=
 ⟨zVm I.ok,I.os,I.bare,I.base,I.loc,I.cell,I.free,I.freeC,fun p hp=>I.pin p (by simpa using hp),I.hok,I.len⟩
theorem zAd (I:Inv (zVl X (X.pn ++ pins) E) pins2 Z H s):Inv X pins Z H s :=
 ⟨zRy I.ok,I.os,I.bare,I.base,I.loc,I.cell,I.free,I.freeC,fun p hp=>I.pin p (List.mem_append_left _ hp),I.hok,I.len⟩
theorem zPD (I:Inv X pins Z H s):Inv (held X e) pins Z H s:=⟨zVn I.ok,I.os,I.bare,I.base,I.loc,I.cell,I.free,I.freeC,I.pin,I.hok,I.len⟩
theorem zQM (ok:X.Ok)(I:Inv (held X e) pins Z H s):Inv X pins Z H s:=⟨ok,I.os,I.bare,I.base,I.loc,I.cell,I.free,I.freeC,I.pin,I.hok,I.len⟩
theorem zRz {D:Ends}{f:Flow}{s' : Shared}(h:SP (zVl X (X.pn ++ pins) E) [] D f s'):SP X pins D f s':=by
 cases f with
 | next=>obtain ⟨Z',H',I,q⟩:=h;exact ⟨Z',H',zAd I,q⟩
 | brk=>obtain ⟨Z',H',I,q⟩:=h;exact ⟨Z',H',zAd I,q⟩
 | cont=>obtain ⟨Z',H',I,q⟩:=h;exact ⟨Z',H',zAd I,q⟩
 | ret u=>obtain ⟨v,Z',H',I,r,q⟩:=h;exact ⟨v,Z',H',zAd I,r,q⟩
theorem zPE {fs ch:List Addr}{h h' : Heap}{c:Addr}{v:Option Value}(z:h.IsCell c v)(k:Chg fs ch h h')(n:c∉ch):h'.IsCell c v:=by obtain ⟨o,e,d⟩:=z;obtain ⟨sl,q⟩:=k.slot c o e n;exact ⟨_,q,d⟩
theorem zXX {fs ch:List Addr}{h h' : Heap}{c:Addr}{m:Y3}(z:h.Ns c m)(k:Chg fs ch h h')(n:c∉ch):h'.Ns c m:=by obtain ⟨o,es,ep,e,r⟩:=z;obtain ⟨sl,q⟩:=k.slot c o e n;exact ⟨_,es,ep,q,r⟩
structure Apart (X:Cx)(pins:Y2)(b:Addr):Prop where
 loc:X.env.locals≠b
 cell:∀ x c,X.env.cells.lookup x=some c->c≠b
 pin:∀ p∈X.pn ++ pins,p.1≠b
 s0:X.s_0.heap.get? b=none
theorem apart (I:Inv X pins σ2 H2 s2)(hex:X.ex=[]){b:Addr}(n:s2.heap.get? b=none):Apart X pins b where
 loc:=fun z=>by obtain ⟨m,⟨o,_,_,e,_⟩,_⟩:=I.loc;rw [z,n] at e;cases e
 cell:=fun x c hc z=>by obtain ⟨v,o,e,_⟩:=I.cell x c hc;rw [z,n] at e;cases e
 pin:=fun p hp z=>by have e:=(I.pin p hp).1;rw [z,n] at e;cases e
 s0:=by
   cases q:X.s_0.heap.get? b with
   | none=>rfl
   | some o =>obtain ⟨o',e⟩:=I.base.there b o q (by rw [hex];simp);rw [n] at e;cases e
theorem zR0 {ch:List Addr}{h' : Heap}{t' : Nat}(I:Inv X pins Z H s)(hex:X.ex=[])(c:Chg (frs X.stack) ch s.heap h')(ap:∀ b∈ch,Apart X pins b)(un:∀ b∈ch,H b=none):Inv X pins Z H { s with heap:=h',toks:=t' }:=by
 have bs:Un X.fs [] X.H_0 H X.s_0.heap s.heap:=by have:=I.base;rw [hex] at this;exact this
 have bs':=zUu bs c (fun b hb=>(ap b hb).s0) fun b hb=>by
   rcases List.mem_cons.mp (I.zMM b hb) with z | z
   . exact .inr (by rw [z];exact Heap.get?_none_of_le I.ok.above)
   . exact .inl z
 refine ⟨I.ok,I.os,I.bare,by rw [hex];exact bs',?_,fun x c' hc=>?_,I.free,I.freeC,fun p hp=>?_,zRt I.hok c I.zKs un,I.len⟩
 . obtain ⟨m,hn,hl⟩:=I.loc;refine ⟨m,zXX hn c fun z=>(ap _ z).loc rfl,fun i x v e1 e2 e3=>?_⟩;obtain ⟨u,r,l⟩:=hl i x v e1 e2 e3;refine ⟨u,r,?_⟩;rcases l with l | ⟨k,c',e,z⟩
   . exact .inl l
   . exact .inr ⟨k,c',e,zPE z c fun y=>(ap _ y).cell x c' e rfl⟩
 . obtain ⟨v,z⟩:=I.cell x c' hc;exact ⟨v,zPE z c fun y=>(ap _ y).cell x c' hc rfl⟩
 . obtain ⟨e,n,ne,nf,d⟩:=I.pin p hp;refine ⟨c.keep p.1 p.2 e (fun z=>?_) fun z=>(ap _ z).pin p hp rfl,n,ne,nf,d⟩;rcases List.mem_cons.mp (I.zMM p.1 z) with y | y
   . exact ne y
   . exact nf y
def HeldAt (C d a:Addr):HO:=.ext fun h=>∃ oe vs,h.get? a=some oe/\oe.cls=.ref C/\oe.dict=some d/\oe.data=.fields vs
theorem zR1 {a C d:Addr}{tb:Value}(I:Inv X pins Z H s)(na:H a=none)(ap:Apart X pins a)(r:Rec s.heap a C d tb):Inv X pins Z (upd H a (HeldAt C d a)) s:=by
 have up:∀ b u,H b=some u->upd H a (HeldAt C d a) b=some u:=fun b u q=>by rw [zF (zI q na)];exact q
 have fr:∀ b,b≠a->H b=none->upd H a (HeldAt C d a) b=none:=fun b hb q=>by rw [zF hb];exact q
 have bs:=I.base;refine ⟨I.ok,I.os,I.bare,⟨bs.keep,bs.slot,fun b o q n hx=>fr b (fun z=>by rw [z,ap.s0] at q;cases q) (bs.free b o q n hx),bs.there,fun b xs q=>up b _ (bs.tups b xs q),fun b o u q=>up b _ (bs.frzs b o u q),fun b ps q=>?_⟩,
   I.loc,I.cell,fr _ ap.loc I.free,fun x c hc=>fr c (ap.cell x c hc) (I.freeC x c hc),fun p hp=>?_,fun b o q=>?_,I.len⟩
 . obtain ⟨m,q1⟩:=bs.tbls b ps q;exact ⟨m,up b _ q1⟩
 . obtain ⟨e,n,r⟩:=I.pin p hp;exact ⟨e,fr _ (ap.pin p hp) n,r⟩
 . by_cases hb:b=a
   . subst hb;rw [zB] at q;cases q;obtain ⟨oe,vs,he,hc,hd,hv,_⟩:=r;exact ⟨⟨oe,vs,he,hc,hd,hv⟩,⟨_,he⟩,fun h1 h2 ⟨oe,vs,he,hc,hd,hv⟩ k=>⟨oe,vs,k _ he,hc,hd,hv⟩⟩
   . rw [zF hb] at q;exact (I.hok b o q).zMK (fun _ _ _ z=>z) (fun c z=>up c _ z) fun c xs z=>up c _ z
theorem zQN {h' : Heap}{m' : Str->Option Value}{t' : Nat}(I:Inv X pins Z H s)(hn:h'.Ns X.env.locals m')(sb:Heap.SameBut X.env.locals s.heap h'):Inv X pins (List.replicate X.N.length none) H { s with heap:=h',toks:=t' }:=by
 have keep:∀ b o,b≠X.env.locals->s.heap.get? b=some o->h'.get? b=some o:=fun b o hb e=>(sb.2 b hb).trans e;have l0:X.s_0.heap.get? X.env.locals=none:=Heap.get?_none_of_le I.ok.above;have n0:∀ b o,X.s_0.heap.get? b=some o->b≠X.env.locals:=fun b o e z=>by rw [z,l0] at e;cases e
 have bs:=I.base;have trk:∀ b u,H b=some u->b≠X.env.locals:=fun b u q z=>by rw [z,I.free] at q;cases q
 refine ⟨I.ok,I.os,I.bare,⟨fun b o q n hb hx=>keep b o (n0 b o q) (bs.keep b o q n hb hx),fun b o q n hb hx=>?_,bs.free,fun b o q hx=>?_,bs.tups,bs.frzs,bs.tbls⟩,⟨m',hn,fun i x v e1 e2 e3=>?_⟩,fun x c hc=>?_,I.free,I.freeC,fun p hp=>?_,fun b o q=>?_,by simp⟩
 . obtain ⟨sl,e⟩:=bs.slot b o q n hb hx;exact ⟨sl,keep b _ (n0 b o q) e⟩
 . obtain ⟨o',e⟩:=bs.there b o q hx;exact ⟨o',keep b _ (n0 b o q) e⟩
 . rw [List.getElem?_replicate] at e2;split at e2 <;> cases e2
 . obtain ⟨v,o,e,d⟩:=I.cell x c hc;exact ⟨v,o,keep c o (I.cne x c hc) e,d⟩
 . obtain ⟨e,n,ne,nf,d⟩:=I.pin p hp;exact ⟨keep p.1 p.2 ne e,n,ne,nf,d⟩
 . refine (I.hok b o q).zMK (fun c v hc z=>keep c v ?_ z) (fun _ z=>z) fun _ _ z=>z;rcases hc with rfl | hc
   . exact trk _ _ q
   . exact trk _ _ hc
end
section
variable {X:Cx}{C fI:Addr}{at_ x n:Str}{np hpos pos:Pos}{b0:Stmt}{body suite:List Stmt}{i:Nat}
def zZC (N:List Str)(C:Addr)(i:Nat)(tb:XK->TS)(th:Addr->TS):TS:=fun D Z H =>
 tb (fun _ od H'=>∃ d,od=some d/\∀ e,H' e=none->th e ⟨fun _ _=>False,D.rt,fun _ _=>False,fun _ _=>False⟩ ((List.replicate N.length none).set i (some (.ref e))) (upd H' e (HeldAt C d e))) D Z H
theorem zXY {tb:XK->TS}{th:Addr->TS}(hex:X.ex=[])(hstk:X.stack=X.env :: X.outer)(hfr:X.env.frame=some X.env.locals)(Xc:∀ h,X.K.In h->zTP h C fI at_)(hg:Gl X x)(hm:X.mg x=some (.ref C))(hN:X.N.Nodup)(hi:X.N[i]? = some n)(hn:X.env.scope.names.lookup n=some .local)(hb:∀ (pn:Y2)(E' : Value->Shared->Prop)(EX:XK),Passes (CXe X.prog X.w C) (zVl X pn E') EX->PSs (zVl X pn E') body (tb EX))(hs:∀ e,PSs (held X e) (b0 :: suite) (th e))(hdb:(x == ("__debug__" : Str))=false:=by decide) : PS X (.Try body [.ExceptHandler (some (.Name x np)) (some n) (b0 :: suite) hpos] [] [] pos) (zZC X.N C i tb th):=by
 intro pins s Z H D I h;rw [arm_exec_Try];refine wpAny_bind (wpAny_standAt (wpAny_tryStmt_except ?_));refine wpAny_mono (hb (X.pn ++ pins) (fun e s1=>wpAny (model X.prog X.w) X.A (noteFrame e X.env) (fun _ s2=>wpAny (model X.prog X.w) X.A (setFlight e none) (fun _ s3 =>
   wpAny (model X.prog X.w) X.A (handleBy e X.env [.ExceptHandler (some (.Name x np)) (some n) (b0 :: suite) hpos]) (SP X pins D) X.xe s3) X.xe s2) X.xe s1) _ ?_ [] s Z H D (zTt I) h) (fun f s1 q=>?_) fun e s1 q=>q
 . rintro pins2 σ2 H2 s2 e s' I2 ⟨a,d,T,H',rfl,os,bare,un,hok,r,ne,en,na,nT,la,lT,d',ed,q⟩;cases ed;have J2:=zAd I2;have J1:Inv X pins σ2 H' s':=zAd (I2.zVS (ch:=[]) os un hok bare (fun b z=>absurd z (by simp)));have apa:Apart X pins a:=apart J2 hex la;have apT:Apart X pins T:=apart J2 hex lT;have J0:Inv X pins (List.replicate X.N.length none) H' s':=J1.weak (by rw [List.length_replicate,J1.len]) fun j v e=>by
     rw [List.getElem?_replicate] at e;split at e <;> cases e
   have hfrm:X.A.frames=some (X.env :: X.outer):=(by rw [J0.ok.frames,hstk]);have hF:s'.heap.FunFrames X.base (X.env :: X.outer):=by have:=J0.stack;rw [hstk] at this;exact this
   refine note (base:=X.base) hfrm hF hfr r (.inr ⟨T,rfl,ne,en⟩) fun h1 T1 ch c1 k1 r1 l1 n1 e1=>?_;refine zRs (s:={ s' with heap:=h1 }) r1 n1 e1 fun h2 c2 r2 e2=>?_;have apT1:Apart X pins T1:=by
     refine apart J2 hex ?_;cases q:s2.heap.get? T1 with
     | none=>rfl
     | some o =>obtain ⟨o',z⟩:=un.there T1 o q (by simp);exact absurd (Heap.lt_size z) (Nat.not_lt.mpr l1)
   have c12:Chg (frs X.stack) (T1 :: a :: ch) s'.heap h2:=by rw [hstk];exact (c1.mono (by simp;exact fun b hb=>.inr (.inr hb))).trans ((c2 _).mono (by simp))
   have apc:∀ b∈T1 :: a :: ch,Apart X pins b:=fun b hb=>by
     simp at hb;rcases hb with rfl | rfl | hb
     . exact apT1
     . exact apa
     . cases k1 b hb;exact apT
   have unc:∀ b∈T1 :: a :: ch,H' b=none:=fun b hb=>by
     simp at hb;rcases hb with rfl | rfl | hb
     . exact J0.hok.fresh l1
     . exact na
     . cases k1 b hb;exact nT
   have K0:Inv X pins (List.replicate X.N.length none) H' { s' with heap:=h2 }:=zR0 (t':=s'.toks) J0 hex c12 apc unc;obtain ⟨N,nm,qn,bs,sn,sub,ab,col,dd,k0,k1',k2,k3,k5,mN,oI,hC,_⟩:=Xc _ K0.kIn;refine wpAny_handleBy_cons (codeAny_handlers_test ?_) (by intro z;cases z);refine zDj (zPD (e:=a) K0) hg hm ?_ hdb;obtain ⟨oe,vs,he,hc,hd,hv,hh⟩:=id r2;refine wpAny_excMatches_sub_self hC he hc (by decide +kernel) ?_;refine codeAny_handlers_suite_as (zRs (s:={ s' with heap:=h2 }) r2 n1 e2 fun h3 c3 r3 e3=>?_);have K1:Inv X pins (List.replicate X.N.length none) H' { s' with heap:=h3 }:=zR0 (s:={ s' with heap:=h2 }) (t':=s'.toks) (ch:=[T1]) K0 hex (c3 _) (fun b hb=>apc b (by simp at hb;simp [hb])) fun b hb=>unc b (by simp at hb;simp [hb]);have K2:=zR1 (tb:=.ref T1) K1 na apa r3;refine zHl K2 hN hi (.inl hn) (v:=.ref a) rfl (hf:=.inr hn) fun s4 I4=>?_;refine wpAny_mono (hs a pins s4 _ _ _ (zPD I4) (q a na)) (fun f s5 q5=>?_) fun _ _ z=>z.elim;have okX:=K0.ok;have goes:∀ σ5 H5,Inv (held X a) pins σ5 H5 s5->∀ R:Unit->Shared->Prop,(∀ s6,Inv X pins (List.replicate X.N.length none) H5 s6->R () s6)->wpAny (model X.prog X.w) X.A (do bindName X.env n .none;unbindBehindTheSuite X.env n hpos) R X.xe s5:=fun σ5 H5 I5 R hR=>by have J5:=zQM okX I5;obtain ⟨m,hm5,_⟩:=J5.loc;refine wpAny_nameGoes hn hm5 (by rw [okX.kind];rfl) fun h' m' hn' sb=>hR _ (zQN J5 hn' sb)
   cases f with
   | next=>obtain ⟨σ5,H5,I5,q6⟩:=q5;exact q6.elim
   | brk=>obtain ⟨σ5,H5,I5,q6⟩:=q5;exact q6.elim
   | cont=>obtain ⟨σ5,H5,I5,q6⟩:=q5;exact q6.elim
   | ret u=>obtain ⟨v,σ5,H5,I5,rv,q6⟩:=q5;exact goes σ5 H5 I5 _ fun s6 I6=>⟨v,_,H5,I6,rv,q6⟩
 . have q':=zRz q;cases f with
   | next=>exact wpAny_execs_nil q'
   | brk=>exact q'
   | cont=>exact q'
   | ret u=>exact q'
end
end XC
namespace XC
open PySem PySem.Spec PyProof.Rows L2
theorem zNt {v:V}{u:Value}(r:RelV v u):handedOut u=pure u:=by
 cases v with
 | non=>cases (show u=Value.none from r);rfl
 | bl b=>cases (show u=Value.bool b from r);rfl
 | int i=>obtain ⟨t,e⟩:=(show ∃ t,u=Value.int i t from r);cases e;rfl
 | str x=>obtain ⟨t,e⟩:=(show ∃ t,u=Value.str x t from r);cases e;rfl
 | byt b=>obtain ⟨t,e⟩:=(show ∃ t,u=Value.bytes b t from r);cases e;rfl
 | flt b=>obtain ⟨t,e⟩:=(show ∃ t,u=Value.float b t from r);cases e;rfl
 | ref a=>cases (show u=Value.ref a from r);rfl
 | ty n=>cases (show u=Value.type n from r);rfl
section
variable {X:Cx}{C fI:Addr}{e:Expr}{f:Str}{pos:Pos}{ta:TE}
def zXZ (C:Addr)(ta:TE)(f:Str):TE:=fun Z H Q=>ta Z H fun x H1=>∃ a d fs v,x=.ref a/\H1 a=some (HeldAt C d a)/\H1 d=some (.xd fs)/\fs.lookup f=some v/\Q v H1
theorem zVo (Xc:∀ h,X.K.In h->zTP h C fI f)(he:PE X e ta)(hb:attributeBase e f X.env (eval e X.env)=eval e X.env):PE X (.Attribute e f pos) (zXZ C ta f):=by intro pins s Z H Q I h;refine zRS hb (thn (he pins s Z H _ I h) ?_);rintro u s1 ⟨x,H1,I1,rx,a,d,fs,v,ex,ea,ed,l,q⟩;subst ex;obtain rfl:u=Value.ref a:=rx;obtain ⟨oe,vs,ho,hc,hd,hv⟩:=(I1.hok a _ ea).1;obtain ⟨mA,ns,hr⟩:=(show jj X.prog X.w H1 s1.heap d (.xd fs) from I1.hok d _ ed);obtain ⟨u',hu,ru⟩:=zKq.some_of (v:=v) (o:=mA f) (by rw [<- l];exact hr f);exact zTq (Xc _ I1.kIn) ho hc hd hv ns.ns hu (zNt ru) ⟨v,H1,I1.tok _,ru,q⟩
end
end XC
namespace XC
open PySem PySem.Spec PyProof.Rows L2
section
variable {X:Cx}{pins:Y2}{Z:L2.St}{H:Hp}{s:Shared}{a:Addr}{φ:Heap->Prop}
theorem zR2 (I:Inv X pins Z H s)(e:H a=some (.ext φ)):Inv X pins Z (drop H a) s:=by
 have nt:∀ b u,H b=some u->u≠.ext φ->drop H a b=some u:=fun b u q n=>by rw [zFT (fun z=>by subst z;rw [e] at q;exact n (Option.some.inj q).symm)];exact q
 refine ⟨I.ok,I.os,I.bare,⟨I.base.keep,I.base.slot,fun b o q n hx=>Ja (I.base.free b o q n hx),I.base.there,fun b xs q=>nt b _ (I.base.tups b xs q) (by intro z;cases z),fun b o u q=>nt b _ (I.base.frzs b o u q) (by intro z;cases z),fun b ps q=>?_⟩,I.loc,I.cell,Ja I.free,fun x c q=>Ja (I.freeC x c q),fun p hp=>?_,fun b o q=>?_,I.len⟩
 . obtain ⟨m,q1⟩:=I.base.tbls b ps q;exact ⟨m,nt b _ q1 (by intro z;cases z)⟩
 . obtain ⟨p1,p2,p3⟩:=I.pin p hp;exact ⟨p1,Ja p2,p3⟩
 . have hb:b≠a:=fun z=>by rw [z,zF0] at q;cases q
   rw [zFT hb] at q;exact (I.hok b o q).zMK (fun _ _ _ z=>z) (fun c z=>nt c _ z (by intro y;cases y)) fun c xs z=>nt c _ z (by intro y;cases y)
theorem zTu {o:HO}(h:H a=none):drop (upd H a o) a=H:=by
 funext b;by_cases hb:b=a
 . subst hb;rw [zF0,h]
 . rw [zFT hb,zF hb]
theorem zXa {h:Heap}{m m' : Str->Option Value}(x:h.Ns a m)(y:h.Ns a m'):m=m':=by obtain ⟨o,es,ep,ho,hd,_,hf⟩:=x;obtain ⟨o',es',ep',ho',hd',_,hf'⟩:=y;rw [ho] at ho';cases ho';rw [hd] at hd';cases hd';funext z;rw [<- hf,<- hf']
theorem zTv {h' : Heap}{m:Y3}{t' : Nat}(I:Inv X pins Z H s)(F:Fr X.base X.env.locals s.heap m)(F' : Fr X.base X.env.locals h' m)(N' : News X.base X.env.locals h' (zKr X.base s.heap X.env.locals)) : Inv X pins Z H { s with heap:=h',toks:=t' }:=by
 have keep:∀ b o,b≠X.env.locals->s.heap.get? b=some o->h'.get? b=some o:=fun b o hb e=>by
   cases q:X.base.get? b with
   | some u =>have:=I.bk b u q;rw [e] at this;cases this;exact F'.keep b _ q
   | none=>exact (N' (b,o) (zNa hb q e)).1
 have lcl:∃ o,h'.get? X.env.locals=some o:=let ⟨o,_,_,e,_⟩:=F'.ns;⟨o,e⟩;refine I.step (g':=s.gens) (d':=s.drawn) (ch:=[]) (fun _ z=>nomatch z) (fun b o hb _ _ e _=>keep b o hb e) (fun b o hb _ _ e _=>⟨o.slots,keep b o hb e⟩) (fun _ _ _ _ n=>n) (fun b o _ e=>?_) (fun _ _ e=>e) (fun _ _ _ e=>e) (fun b ps e=>⟨#[],by rw [e];simp⟩) (fun m' hm=>?_) (fun b o q=>?_) I.bare
 . by_cases hb:b=X.env.locals
   . rw [hb];exact lcl
   . exact ⟨o,keep b o hb e⟩
 . rw [zXa hm F.ns];exact F'.ns
 . have trk:∀ c u,H c=some u->c≠X.env.locals:=fun c u q z=>by rw [z,I.free] at q;cases q
   refine (I.hok b o q).zMK (fun c v hc z=>keep c v ?_ z) (fun _ z=>z) fun _ _ z=>z;rcases hc with rfl | hc
   . exact trk _ _ q
   . exact trk _ _ hc
end
section
variable {X:Cx}
def zXb (K:Fg):V->List V->Hp->VK->Prop:=fun x xs H Q=>∃ (a:Addr)(ns:List Int)(k:Int),x=V.ref a/\xs=[.int k]/\SqL K H a (ns.map V.int)/\Q (.int (ns.count k:Nat)) H
theorem zMh:MtR X "list.count" (zXb X.K):=by
 intro pins s Z H x xs v us Q I rx rxs h;obtain ⟨a,ns,k,rfl,rfl,hs,q⟩:=h;cases rx;cases rxs with
 | cons r1 r2 =>cases r2;obtain ⟨t,rfl⟩:=r1;obtain ⟨its,rv,hl,_⟩:=I.list hs;exact count_list_ints hl.isList rv.ints ⟨.int (ns.count k:Nat),H,I.tok _,⟨_,rfl⟩,q⟩
theorem zQO:zH1 X (.type "dict") (fun xs H Q=>∃ d kvs,xs=[V.ref d]/\H d=some (.dK kvs)/\∀ p,H p=none->Q (.ref p) (upd H p (.dK kvs))):=by intro pins s Z H vs us Q I r h;obtain ⟨d,kvs,rfl,hd,q⟩:=h;rw [Vals.zY9 r];obtain ⟨z,hS,ws,kv,m⟩:=(show jj X.prog X.w H s.heap d (.dK kvs) from I.hok d _ hd);have hl:kvs.length=ws.length:=Paired.length kv;refine kt_call_dict hS m (by rw [<- hl];exact z) fun h' hm sb=>?_;refine ⟨.ref _,_,I.laid (a:=s.heap.objs.size) (o:=.dK kvs) (t':=s.toks) (fun b u e=>?_) (Nat.le_refl _) ⟨z,beq_eq_false_iff_ne.mpr (Ne.symm (Nat.ne_of_lt I.big)),ws,kv,hm⟩,rfl,q _ (I.hok.fresh (Nat.le_refl _))⟩;exact (sb.2 b (Nat.ne_of_lt (Heap.lt_size e))).trans (Heap.get?_push_of_some _ e)
end
section
variable {X:Cx}{kvs:List (Key×V)}
def zWm:V->Int
 | .int i=>i
 | _=>0
def zWn:List (Key×V)->Int
 | []=>0
 | p :: r=>zWm p.2+zWn r
theorem zPF:∀ (kvs:List (Key×V)),preSum (fun i=>((kvs[i]?).map fun p=>zWm p.2).getD 0) kvs.length=zWn kvs
 | []=>rfl
 | p :: r=>by rw [List.length_cons,PySem.W.kdu_shift];show zWm p.2+preSum (fun i=>((r[i]?).map fun p=>zWm p.2).getD 0) r.length=_;rw [zPF r];rfl
theorem zFU {α β:Type}{G:α->β->Prop}:∀ {l:List α}{m:List β}{i:Nat}{b:β},Paired G l m->m[i]? = some b->∃ a,l[i]? = some a/\G a b
 | _,_,_,_,.nil,e=>by simp at e
 | _,_,0,_,.cons r _,e=>by simp at e;subst e;exact ⟨_,rfl,r⟩
 | _,_,i+1,_,.cons _ t,e=>by obtain ⟨a,h1,h2⟩:=zFU (i:=i) t (by simpa using e);exact ⟨a,by simpa using h1,h2⟩
def zVp (v:V)(H:Hp)(Q:VK):Prop:=∃ w d kvs,v=V.ref w/\H w=some (.ext fun h=>h.IsValuesView w d)/\H d=some (.dK kvs)/\(∀ p∈kvs,∃ z,p.2=V.int z)/\Q (.int (zWn kvs)) (drop H w)
def zVq (td:TE):TE:=fun Z H Q=>td Z H fun x H1=>∃ d kvs,x=.ref d/\H1 d=some (.dK kvs)/\∀ v,H1 v=none->Q (.ref v) (upd H1 v (.ext fun h=>h.IsValuesView v d))
def zXc (td:TE):TE:=fun Z H Q=>zVq td Z H fun v H1=>zVp v H1 Q
theorem zR3 {d:Addr}{H:Hp}{Q:VK}(hd:H d=some (.dK kvs))(hz:∀ p∈kvs,∃ z,p.2=V.int z)(q:Q (.int (zWn kvs)) H) : ∃ d' kvs',V.ref d=.ref d'/\H d' = some (.dK kvs')/\∀ v,H v=none->zVp (.ref v) (upd H v (.ext fun h=>h.IsValuesView v d')) Q :=
 ⟨d,kvs,rfl,hd,fun v hv=>⟨v,d,kvs,rfl,zB,by rw [zF (zI hd hv)];exact hd,hz,by rw [zTu hv];exact q⟩⟩
theorem zVr {e:Expr}{td:TE}{apos cpos:Pos}(he:PE X e td)(hbase:attributeBase e "values" X.env (eval e X.env)=eval e X.env:=by rfl)(hline:(apos.endLine == cpos.line)=true:=by rfl) : PE X (.Call (.Attribute e "values" apos) [] [] cpos) (zVq td):=by
 intro pins s Z H Q I h;refine wpAny_Call_method (T := "dict") (id := "dict.values") hbase rfl hline F.plainAttrs_dict F.slot_dict_values F.type_dict_values (thn (he pins s Z H _ I h) ?_);rintro u s1 ⟨x,H1,I1,rx,d,kvs,ex,hd,q⟩;subst ex;obtain rfl:u=Value.ref d:=rx;obtain ⟨z,hS,ws,kv,m⟩:=(show jj X.prog X.w H1 s1.heap d (.dK kvs) from I1.hok d _ hd);refine ⟨m.typeIs,m.mapOf.noDict,?_⟩;have vw:(s1.heap.push { cls:=.type "dict_values",data:=.fields #[.ref d] }).IsValuesView s1.heap.objs.size d:=⟨_,Heap.get?_push_size _ rfl,rfl,rfl⟩;have I2:Inv X pins Z (upd H1 s1.heap.objs.size (.ext fun h=>h.IsValuesView s1.heap.objs.size d)) { s1 with heap:=s1.heap.push { cls:=.type "dict_values",data:=.fields #[.ref d] } } :=
   I1.laid (t':=s1.toks) (fun b ob q=>Heap.get?_push_of_some _ q) (Nat.le_refl _) ⟨vw,let ⟨o,e,_⟩:=vw;⟨o,e⟩,fun h1 h2 ⟨o,e,r⟩ k=>⟨o,k o e,r⟩⟩
 show wpAny _ _ (callWith cpos (.builtin "dict.values") [.ref d] [] []) _ X.xe s1;exact method_meetsIn F.slot_dict_values F.entry_dict_values rfl (PySem.evalArgs_none ⟨rfl,m.typeIs,F.args_dict_values_1 _,_,meets_dict_values (z4 X.prog X.w) d hS,⟨ws,m⟩,⟨.ref s1.heap.objs.size,_,I2,rfl,q _ (I1.hok.fresh (Nat.le_refl _))⟩⟩)
theorem zVs {e:Expr}{td:TE}{p apos cpos pos:Pos}(hc:X.calm=true)(hg:Gl X "sum")(hm:X.mg "sum" = none)(he:PE X e td)(hbase:attributeBase e "values" X.env (eval e X.env)=eval e X.env:=by rfl)(hline:(apos.endLine == cpos.line)=true:=by rfl)(hs:starEach [.Call (.Attribute e "values" apos) [] [] cpos] X.env=(false,eval (.Call (.Attribute e "values" apos) [] [] cpos) X.env) :: starEach [] X.env:=by rfl) : PE X (.Call (.Name "sum" p) [.Call (.Attribute e "values" apos) [] [] cpos] [] pos) (zXc td):=by
 have hr:zH1 X (.builtin "sum") (fun xs H Q=>match xs with | [v]=>zVp v H Q | _=>False):=by
   intro pins s Z H vs us Q I r h;cases r with
   | nil=>exact False.elim h
   | cons r1 r2 =>
     cases r2 with
     | cons _ _=>exact False.elim h
     | nil =>
       obtain ⟨v,d,kvs,rfl,hv,hd,hz,q⟩:=h;cases r1;obtain ⟨z,hS,ws,kv,m⟩:=(show jj X.prog X.w H s.heap d (.dK kvs) from I.hok d _ hd);obtain ⟨ep,hat⟩:=m.dictAt;have vw:=(I.hok v _ hv).1;have hlen:kvs.length=ws.length:=Paired.length kv;obtain ⟨mm,F⟩:=I.fr;refine PySem.W.kdu_sum (PySem.W.kdl_values (knd:=z4 X.prog X.w) (r:=v) (d:=d) (kvs:=ws) (ep:=ep)) (I.ok.hd hc) F zTT ⟨vw,hat⟩ (fun i=>((kvs[i]?).map fun p=>zWm p.2).getD 0) (fun i u hu=>?_) fun h' tk t' F' N'=>?_
       . obtain ⟨k,hk⟩:=hu;obtain ⟨p,hp,e1,rp⟩:=zFU kv hk;obtain ⟨y,hy⟩:=hz p (List.mem_of_getElem? hp);rw [hy] at rp;obtain ⟨t,rfl⟩:=rp;exact ⟨t,by rw [hp];simp [hy,zWm]⟩
       . rw [<- hlen,zPF];exact ⟨.int (zWn kvs),drop H v,zR2 (zTv (t':=tk) I F F' N') hv,⟨_,rfl⟩,q⟩
 intro pins s Z H Q I h;exact zd hr hg hm (by decide +kernel) (zA (zVr he hbase hline) zD hs) (by decide) (by decide) hs (by rfl) pins s Z H Q I h
end
end XC
namespace XC
open PySem PySem.Spec PyProof.Rows L2
theorem zKL:∀ {vs:List Value}{ns:List Int},vs.length=ns.length->(∀ (j:Nat)(v:Value),vs[j]? = some v->∃ t z,ns[j]? = some z/\v=Value.int z t)->IntsAre vs ns
 | [],[],_,_=>.nil
 | [],_ :: _,h,_=>by simp at h
 | _ :: _,[],h,_=>by simp at h
 | v :: vs,n :: ns,h,k=>by obtain ⟨t,z,e1,e2⟩:=k 0 v rfl;simp at e1;subst e1 e2;exact .cons _ _ (zKL (by simpa using h) fun j v e=>k (j+1) v (by simpa using e))
section
variable {X:Cx}
theorem zQP (hc:X.calm=true):zH1 X (.builtin "sorted") (fun xs H Q=>∃ d kvs ns,xs=[V.ref d]/\H d=some (.dK kvs)/\kvs.map (·.1)=ns.map Sum.inl/\ns.length < 64/\ ∀ (ns' : List Int)(p:Addr),ns'.Perm ns->ns'.Pairwise (·<=·)->H p=none->Q (.ref p) (upd H p (.lst (ns'.map V.int)))):=by
 intro pins s Z H vs us Q I r h;obtain ⟨d,kvs,ns,rfl,hd,hk,h64,q⟩:=h;rw [Vals.zY9 r];obtain ⟨z,hS,ws,kv,m⟩:=(show jj X.prog X.w H s.heap d (.dK kvs) from I.hok d _ hd);obtain ⟨ep,hat⟩:=m.dictAt;have hl:kvs.length=ws.length:=Paired.length kv;have hn:kvs.length=ns.length:=by have:=congrArg List.length hk;simpa using this
 have hsz:ws.length<=sizeLine:=by rw [<- hl];exact z
 refine Calls.call_function_entry kind_sorted plain_sorted entry_sorted (args_sorted1 _) ?_;unfold Builtin.«sorted»;refine wpAny_bind (m:=checkCount "sorted" 1 1 _) (wpAny_pure ?_);refine wpAny_bind (PySem.W.kdu_collect (A:=X.A.in1) (PySem.W.kdl_dict (knd:=z4 X.prog X.w) (kvs:=ws) (ep:=ep) hS) (I.ok.hd hc) hat hsz fun h' tk acc keep items=>?_);have hal:acc.toList.length=ns.length:=by rw [Array.length_toList,items.1,<- hl,hn]
 refine wpAny_bind (wpAny_newList ?_ (by rw [hal];exact zRZ h64));have hI:IntsAre acc.toList ns:=zKL hal fun j v e=>by
   obtain ⟨k,x,e1,e2⟩:=items.2 j v (by rw [<- Array.getElem?_toList];exact e);obtain ⟨p,hp,e3,_⟩:=zFU kv e1;have e4:(kvs.map (·.1))[j]? = some p.1:=by rw [List.getElem?_map,hp];rfl
   rw [hk,List.getElem?_map] at e4;cases e5:ns[j]? with
   | none=>rw [e5] at e4;cases e4
   | some y =>
     rw [e5] at e4;have e3' : p.1=k:=e3;have e6:(Sum.inl y:Key)=k:=(Option.some.inj e4).trans e3';rw [<- e6] at e2;rcases qd (show zJW (Sum.inl y) v=true from e2) with ⟨i,t,e7,e8⟩ | ⟨_,_,e7,_⟩
     . cases e7;exact ⟨t,y,rfl,e8⟩
     . cases e7
 have hoL:(h'.push (seqObj "list" acc.toList.toArray 0)).get? h'.objs.size=some (seqObj "list" acc.toList.toArray 0):=Heap.get?_push_size _ rfl;refine wpAny_bind (wpAny_holding (wpAny_call_entry slot_list_sort ⟨_,hoL,rfl⟩ entry_list_sort (list_sort_tree hoL hI (by rw [hal];exact h64) fun out ns' a1 a2 a3=>⟨.none,rfl,?_⟩) (args_list_sort _)));refine wpAny_pure ⟨_,rfl,?_⟩;obtain ⟨ep',he'⟩:=sortedHeap_at (vs:=acc.toList) (out:=out) hoL;have hlen:(ns'.map V.int).length<=sizeLine:=by rw [List.length_map,a2.length_eq];exact zRZ h64
 have gn:s.heap.get? h'.objs.size=none:=by
   cases y:s.heap.get? h'.objs.size with
   | none=>rfl
   | some o=>exact absurd (Heap.lt_size (keep _ _ y)) (Nat.lt_irrefl _)
 have I' : Inv X pins Z (upd H h'.objs.size (.lst (ns'.map V.int))) { s with heap:=sortedHeap (h'.push (seqObj "list" acc.toList.toArray 0)) h'.objs.size acc.toList out,toks:=tk } :=
   zPA (s:=s) (t':=tk) I (fun b u e=>?_) gn ⟨hlen,out.toList,ep',zHE a1,he'⟩
 . exact ⟨.ref h'.objs.size,_,I',rfl,q ns' _ a2 a3 (zNr I.hok gn)⟩
 have e1:=Heap.get?_push_of_some (seqObj "list" acc.toList.toArray 0) (keep b u e);have hb:b≠h'.objs.size:=fun y=>by rw [y,gn] at e;cases e
 exact (sortedHeap_old hb (Heap.lt_size e1)).trans e1
end
end XC
namespace XC
open PySem PySem.Spec PyProof.Rows L2
def zYh (K:Fg)(C fI:Addr)(a:Str):Bool :=
 (match K.lookup C with
 | some ⟨.type "type",_,.cls cd,sl⟩ =>
   (match cd.mro,sl.toList with
   | .ref D :: bm,[_,_,_,_,some (.builtin n),_] =>
     D == C && bm == VEm && n == "ValueError.__new__" && !cd.hasDel && cd.hasDict && PySem.W.nsOkIn K cd.ns && PySem.W.nsIn K cd.ns "__init__" == some (some (.ref fI)) &&
       PySem.W.nsIn K cd.ns "__setattr__" == some none && PySem.W.nsIn K cd.ns "__getattribute__" == some none && PySem.W.nsIn K cd.ns "__getattr__" == some none && PySem.W.nsIn K cd.ns a == some none
   | _,_=>false)
 | _=>false) && PySem.W.isFn K (.ref fI) && fastLookup "ValueError" a == some none
theorem zQQ {K:Fg}{h:Heap}{N:Addr}{m:Y3}{n:Str}{v:Value}(X:K.In h)(G:h.Ns N m)(e:PySem.W.nsIn K N n=some (some v)):m n=some v:=by
 obtain ⟨o,es,ep,ho,hd,_,hf⟩:=G;unfold PySem.W.nsIn at e;split at e
 . rename_i c d es' n' sl q;have:=X _ _ q;rw [ho] at this;cases this;cases hd;split at e
   . rename_i en he;rw [<- hf];unfold nsFind findBy;rw [<- Array.find?_toList,he];exact congrArg some (Option.some.inj (Option.some.inj e))
   . split at e <;> cases e
 . cases e
theorem zVt {K:Fg}{C fI:Addr}{a:Str}(q:zYh K C fI a=true):∀ h,K.In h->zTP h C fI a:=by
 intro h X;unfold zYh at q;rw [Bool.and_eq_true,Bool.and_eq_true] at q;obtain ⟨⟨q,qf⟩,ql⟩:=q;have hB:typeLookup (.type "ValueError") a=pure none:=by rw [typeLookup_type,builtinLookup_eq_fast,beq_iff_eq.mp ql]
 split at q
 . rename_i dd cd sl ho;split at q
   . rename_i D bm k0 k1 k2 k3 n k5 hm hs;simp only [Bool.and_eq_true,beq_iff_eq,Bool.not_eq_true'] at q;obtain ⟨⟨⟨⟨⟨⟨⟨⟨⟨⟨rfl,rfl⟩,rfl⟩,hdel⟩,hdict⟩,hok⟩,h1⟩,h2⟩,h3⟩,h4⟩,h5⟩:=q;obtain ⟨nm,bs,mro,ns,qn,hd,sn,sub,ab,col,del⟩:=cd;dsimp only at hm hdel hok h1 h2 h3 h4 h5 hdict;subst hm hdel hdict;have hsl:sl = #[k0,k1,k2,k3,some (.builtin "ValueError.__new__"),k5]:=by
       obtain ⟨l⟩:=sl;simp only at hs;rw [hs]
     subst hsl;have hN:h.Ns ns (h.nsMap ns):=.of_isNs (PySem.W.isNs_of_in X hok);have hf:∃ oI,h.get? fI=some oI/\oI.cls=.type "function":=by unfold PySem.W.isFn PySem.W.typeIn at qf;obtain ⟨oI,g1,g2⟩:=Option.map_eq_some_iff.mp (beq_iff_eq.mp qf);exact ⟨oI,X _ _ g1,g2⟩
     obtain ⟨oI,g1,g2⟩:=hf;exact ⟨ns,nm,qn,bs,sn,sub,ab,col,dd,k0,k1,k2,k3,k5,_,oI,X _ _ ho,hN,zQQ X hN h1,g1,g2,PySem.W.ns_none_of X hN h2,PySem.W.ns_none_of X hN h3,PySem.W.ns_none_of X hN h4,PySem.W.ns_none_of X hN h5,hB⟩
   . cases q
 . cases q
end XC
namespace L2
open PySem PySem.Spec PyProof.Rows
def zUw:List DictEntry->List (Int×Value)->Prop:=Paired fun e kv=>e.hash=hashInt kv.1/\(∃ t,e.key=.int kv.1 t)/\e.val=kv.2
def KD (K:Fg)(a:Addr)(kvs:List (Int×Value)):Prop:=∃ o es ep,K.lookup a=some o/\o.ExactDict/\o.data=.dict es ep/\zUw es.toList kvs/\(kvs.map (·.1)).Nodup
def KG (K:Fg)(a:Addr)(m:Int)(v:V):Prop:=∃ kvs u,KD K a kvs/\(kvs.find? fun kv=>decide (kv.1=m)).map (·.2)=some u/\RelV v u
theorem zUw.pairs {P:Program}{w:World}:∀ {es:List DictEntry}{kvs:List (Int×Value)},zUw es kvs->Pairs (z4 P w) es (kvs.map fun kv=>((Sum.inl kv.1:Key),kv.2))
 | _,_,.nil=>.nil
 | _,_,.cons (a:=e) (b:=kv) h t=>by obtain ⟨h1,⟨tk,h2⟩,h3⟩:=h;refine .cons ?_ h3 (zUw.pairs t);show zJW (Sum.inl kv.1) e.key=true;rw [h2];exact zMJ _ _
theorem zUw.keys {P:Program}{w:World}:∀ {es:List DictEntry}{kvs:List (Int×Value)},zUw es kvs->∀ e∈es,∃ k,(z4 P w).is k e.key=true/\e.hash=(z4 P w).hash k
 | _,_,.nil,e,he=>by cases he
 | _,_,.cons (a:=e0) (b:=kv) h t,e,he=>by
   rcases List.mem_cons.mp he with rfl | he
   . obtain ⟨h1,⟨tk,h2⟩,h3⟩:=h;exact ⟨Sum.inl kv.1,by rw [h2];exact zHy P w kv.1 tk,h1⟩
   . exact zUw.keys t e he
theorem zPG (m:Int):∀ kvs:List (Int×Value),valueAt (kvs.map fun kv=>((Sum.inl kv.1:Key),kv.2)) (Sum.inl m)=(kvs.find? fun kv=>decide (kv.1=m)).map (·.2)
 | []=>rfl
 | kv :: r=>by
   have ih:=zPG m r;unfold valueAt at *;rw [List.map_cons,List.find?_cons,List.find?_cons];by_cases e:kv.1=m
   . simp [e]
   . have e1:decide ((Sum.inl kv.1:Key)=Sum.inl m)=false:=decide_eq_false fun z=>e (Sum.inl.inj z);simp only [e1,e,decide_false];exact ih
theorem KD.dict {X:Cx}{pins:Y2}{Z:L2.St}{H:Hp}{s:Shared}{a:Addr}{kvs:List (Int×Value)}(I:Inv X pins Z H s)(h:KD X.K a kvs):s.heap.DictOf (z4 X.prog X.w) a (kvs.map fun kv=>((Sum.inl kv.1:Key),kv.2)):=by obtain ⟨o,es,ep,h1,h2,h3,h4,h5⟩:=h;refine ⟨o,es,ep,I.kIn a o h1,h2,h3,fun e he=>h4.keys e (Array.mem_toList_iff.mpr he),h4.pairs,?_⟩;rw [List.map_map];have:((fun x=>x.1)∘fun (kv:Int×Value)=>((Sum.inl kv.1:Key),kv.2))=(fun k:Int=>(Sum.inl k:Key))∘(fun (kv:Int×Value)=>kv.1):=rfl;rw [this,<- List.map_map];refine List.Pairwise.map _ (fun a b hab z=>hab (Sum.inl.inj z)) h5
def zR4 (K:Fg)(td ty:TE):TE:=fun Z H Q=>td Z H fun x H1=>ty Z H1 fun y H2=>∃ a m v,x=.ref a/\y=.int m/\KG K a m v/\Q v H2
section
variable {X:Cx}{o i e value:Expr}{pos pos' tpos:Pos}{td ty tv:TE}
theorem zIH (ho:PE X o td)(hi:PE X i ty)(hs:zYI i):PE X (.Subscript o i pos) (zR4 X.K td ty):=by intro pins s Z H Q I h;refine zNo PySem.F.slot_dict_getitem.lookup hs (thn (ho pins s Z H _ I h) fun u s1 ⟨x,H1,I1,rx,q1⟩=>thn (hi pins s1 Z H1 _ I1 q1) fun iv s2 ⟨y,H2,I2,ry,a,m,v,ex,ey,g,q2⟩=>?_);subst ex ey;obtain rfl:u=Value.ref a:=rx;obtain ⟨kvs,u,kd,hf,rv⟩:=g;have dd:=kd.dict I2;exact ⟨dd.typeIs,wpAny_getItem_of (k:=Sum.inl m) (zNn (k:=Sum.inl m) ry) dd.mapOf (by rw [zPG];exact hf) ⟨v,H2,I2.tok _,rv,q2⟩⟩
end
end L2
namespace XC
open PySem PySem.Spec PyProof.Rows L2
section
variable {X:Cx}{k:Nat}{f:Addr}{fd:FuncData}{ps:List Str}{sp:Sp}{x:Str}{p pos:Pos}{e:Expr}{es:List Expr}{t:TA}
theorem zTw (F:zNs X.prog X.w X.K X.mg X.base CX0 k f fd ps sp)(hr:zCC k X.A)(hg:Gl X x)(hm:X.mg x=some (.ref f))(hk:PySem.W.keepIn X.K (.ref f)=true)(hb:Binds X.K fd ps [])(ha:PA X (e :: es) t)(hdb:(x == ("__debug__" : Str))=false:=by decide)(he:starEach (e :: es) X.env=(false,eval e X.env) :: starEach es X.env:=by rfl)(hpl:(backTo pos (starEach es X.env)).any (·.1)=false:=by rfl) : PE X (.Call (.Name x p) (e :: es) [] pos) (zJY sp [] E0 t):=by
 intro pins s Z H Q I h;refine wpAny_Call_Name_kw (zDj I hg hm ?_ hdb);refine PySem.W.callWith_K (h₀:=X.base) I.ok.mod.kin hk (thn (ha pos pins s Z H _ I h) fun us s1 ⟨vs,H1,I1,r,hq⟩=>⟨I1.kIn,?_⟩) he hpl;replace hq:sp (vs ++ []) H1 Q E0:=hq;rw [List.append_nil] at hq;have hl:us.length=ps.length:=by have e:=r.length;rw [F.len _ _ _ _ hq] at e;exact e.symm
 have bd:=hb s1 us I1.kIn (by rw [List.append_nil];exact hl);rw [List.append_nil] at bd;refine wpAny_call (codeAny_mono (F.run _ X.stack _ _ ⟨us,[]⟩ _ _ _ E0 hr I1.zW6 bd r hq) fun r s' hq'=>?_);cases r with
 | error e=>exact False.elim hq'
 | ok fl =>
   cases fl with
   | ret u=>exact I1.after hq'
   | next=>exact False.elim hq'
   | brk=>exact False.elim hq'
   | cont=>exact False.elim hq'
end
end XC
namespace L2
open PySem PySem.Spec PyProof.Rows
section
variable {X:Cx}{k j:Nat}{f C:Addr}{fd:FuncData}{ps:List Str}{sp:Sp}{x m y q:Str}{st:Stmt}{p pos apos:Pos}{e o a b:Expr}{es:List Expr}{ta tb:TE}{t:TA}{i:Nat}
theorem cA (F:qM X.prog X.w X.K X.mg X.base CX0 k f fd ps sp)(hr:zDi j X.A)(hm:X.mg x=some (.ref f))(hk:Fun X.K y q st f fd)(hb:Binds X.K fd ps [])(ha:PA X (e :: es) t)(hg:Gl X x:=by rfl)(hj:k<=j:=by decide)(hdb:(x == ("__debug__" : Str))=false:=by decide)(he:starEach (e :: es) X.env=(false,eval e X.env) :: starEach es X.env:=by rfl)(hpl:(backTo pos (starEach es X.env)).any (·.1)=false:=by rfl):PE X (.Call (.Name x p) (e :: es) [] pos) (zJY sp [] E0 t) :=
 zFN F (hr.mono hj) hg hm hk.kp hb .nil zBj ha hdb he hpl
theorem sA {te:TE}{pos' : Pos}(i:Nat)(hN:X.N.Nodup)(he:PE X e te)(hi:X.N[i]? = some x:=by rfl)(hx:Loc X.env.scope x:=by first | exact Or.inl rfl | exact Or.inr rfl)(hs:swapsWith e (some (.Name x pos')) pos.line X.env=pure false:=by rfl)(hf:X.fn x=true\/X.env.scope.names.lookup x=some .local:=by first | exact .inl rfl | exact .inr rfl | assumption) : PS X (.Assign [.Name x pos'] e pos) (zVW te (zE9 i)):=zMP hN hi hx he hs hf
theorem mA {pl:Sem Bool}(he:PE X o ta)(c:Cls X.K C)(hm:Meth X.K C m f)(F:qM X.prog X.w X.K X.mg X.base CX0 k f fd ps sp)(hr:zDi j X.A)(hb:Binds X.K fd ps [])(ha:PA X (e :: es) t)(hj:k<=j:=by decide)(hst:starEach (e :: es) X.env=(false,eval e X.env) :: starEach es X.env:=by rfl)(hpl:(backTo pos (starEach es X.env)).any (·.1)=false:=by rfl)(ht:eval (.Call (.Attribute o m apos) (e :: es) [] pos) X.env=(do
     let ov <- eval o X.env
     standAt apos.atName
     let (f,first) <- holding [ov] (getMethod ov m pl)
     callWith pos f first (backTo pos (starEach (e :: es) X.env)) (backToKw pos (keywordEach [] X.env))):=by rfl):PE X (.Call (.Attribute o m apos) (e :: es) [] pos) (zNd C m sp [] E0 ta t) :=
 zVb he c hm F (hr.mono hj) hb .nil zBj ha hst hpl ht
theorem mA0 {pl:Sem Bool}(he:PE X o ta)(c:Cls X.K C)(hm:Meth X.K C m f)(F:qM X.prog X.w X.K X.mg X.base CX0 k f fd ps sp)(hr:zDi j X.A)(hb:Binds X.K fd ps [])(hj:k<=j:=by decide)(ht:eval (.Call (.Attribute o m apos) [] [] pos) X.env=(do
     let ov <- eval o X.env
     standAt apos.atName
     let (f,first) <- holding [ov] (getMethod ov m pl)
     callWith pos f first (backTo pos (starEach [] X.env)) (backToKw pos (keywordEach [] X.env))):=by rfl):PE X (.Call (.Attribute o m apos) [] [] pos) (zNd C m sp [] E0 ta zP8) :=
 zKy he c hm F (hr.mono hj) hb .nil zBj ht
theorem ixL (ha:PE X a ta)(hb:PE X b tb)(hs:zNh b:=by exact fun _ _=>rfl):PE X (.Subscript a b pos) (tOp (zUm X.K) ta tb):=zQD zRX ha hb hs
theorem ixT (ha:PE X a ta)(hb:PE X b tb)(hs:zNh b:=by exact fun _ _=>rfl):PE X (.Subscript a b pos) (tOp (zWk X.K) ta tb):=zQD zUn ha hb hs
end
theorem xS {x:V}{P:V->Prop}:(∃ v,some (some x)=some (some v)/\P v)=P x:=by simp
theorem xI {n:Int}{P:Int->Prop}:(∃ i,V.int n=V.int i/\P i)=P n:=by simp
theorem xB {n:Bool}{P:Bool->Prop}:(∃ i,V.bl n=V.bl i/\P i)=P n:=by simp
theorem xII {n m:Int}{P:Int->Int->Prop}:(∃ i j,V.int n=V.int i/\V.int m=V.int j/\P i j)=P n m:=by simp
theorem xR1 {n:Addr}{P:Addr->Prop}:(∃ i,V.ref n=V.ref i/\P i)=P n:=by simp
theorem xR2 {n:Addr}{α:Sort _}{P:Addr->α->Prop}:(∃ i a,V.ref n=V.ref i/\P i a) = ∃ a,P n a:=by simp
theorem xR3 {n:Addr}{α β:Sort _}{P:Addr->α->β->Prop}:(∃ i a b,V.ref n=V.ref i/\P i a b) = ∃ a b,P n a b:=by simp
theorem xR4 {n:Addr}{α β γ:Sort _}{P:Addr->α->β->γ->Prop}:(∃ i a b c,V.ref n=V.ref i/\P i a b c) = ∃ a b c,P n a b c:=by simp
theorem xR5 {n:Addr}{α β γ δ:Sort _}{P:Addr->α->β->γ->δ->Prop}:(∃ i a b c d,V.ref n=V.ref i/\P i a b c d) = ∃ a b c d,P n a b c d:=by simp
theorem Fun.okc {P:Program}{w:World}{K:Fg}{mg:Y3}{base:Heap}{x qual:Str}{st:Stmt}{f:Addr}{fd:FuncData}{N ps:List Str}{k:Nat}{sp:Sp}(F:Fun K x qual st f fd)(S:zL N ps (zH st))(h:∀ (vs:List V)(H:Hp)(Q:VK)(E:XK),sp vs H Q E->vs.length=ps.length/\∀ (cdv:Value)(A:Around)(outer:List Env)(s:Shared),zDi k (A.deeper (envOfC qual (zH st) s.heap.objs.size f cdv))->
     ∃ t,PSs (zKF CX0 P w K mg base N qual (zH st) f cdv A outer s H E).nox (jq st) t/\t { nx:=fun _ H'=>Q .non H',rt:=Q } (start N vs) H):qM P w K mg base CX0 (k+1) f fd ps sp :=
 F.ok S (fun vs H Q E z=>(h vs H Q E z).1) fun cdv A outer s H vs Q E hr z=>(h vs H Q E z).2 cdv A outer s hr
theorem hid {X:Prop}(h:∀ G:Prop,(X->G)->G):X:=h X id
end L2
namespace PySem
section
variable {prog:Program}{w:World}{K:Type} [DecidableEq K] {knd:HeapKind prog w K}{A:Around}{E:Y1}{s:Shared}
theorem zFV {d a:Addr}{xs:List (K×Addr×Value)}{k:K}{v:Value}{Q:Y1}(hu:knd.room A)(hkey:knd.is s.heap k a)(hm:s.heap.DictOfH knd d xs)(h1:∀ p,atKey xs k=some p->Q p.2 { s with toks:=s.toks+knd.draws k })(h2:atKey xs k=none->∀ h',h'.DictOfH knd d (xs ++ [(k,a,v)])->Heap.SameBut d s.heap h'->Q v { s with heap:=h',toks:=s.toks+knd.draws k })(hsz:xs.length<=sizeLine) : wpAny (model prog w) A (dictSetDefault d (.ref a) v) Q E s:=by
 obtain ⟨o,es,ep,ho,hc,hd,he,his,hn⟩:=hm;unfold dictSetDefault
 try with_reducible refine wpAny_holding ?_
 refine wpAny_bind (knd.pyHash hu hkey ?_);refine wpAny_bind (wpAny_dictFind_heap (s:={ s with toks:=s.toks+knd.draws k }) hu hkey ho hd he his hn ?_ ?_)
 . intro hno;have hnot:k∉xs.map (·.1):=not_mem_keys_of_get hno;refine wpAny_bind (wpAny_rule (wpAny_bind (wpAny_updateDictKeys (hz:=by have e:=size_of_entries he;omega) (s:={ s with toks:=s.toks+knd.draws k }) ho hd (wpAny_pure (h2 (atKey_none_of_get hno) _ ⟨_,_,ep+1,Heap.get?_update_self _ ho (Obj.isFreed_of_dict (Obj.data_mapDictKeys hd _)),
     hc.mapDictKeys _,Obj.data_mapDictKeys hd _,?_,?_,?_⟩ (Heap.SameBut.update ..))))))
   . simp [he,entryOfKey]
   . intro x hx;rcases List.mem_append.mp hx with hx | hx
     . exact knd.keeps (his x hx) ho hd (Heap.SameBut.update ..)
     . simp only [List.mem_singleton] at hx;subst hx;exact knd.keeps hkey ho hd (Heap.SameBut.update ..)
   . rw [List.map_append,List.nodup_append];refine ⟨hn,by simp,?_⟩;intro x hx y hy;simp only [List.map_cons,List.map_nil,List.mem_singleton] at hy;subst hy;exact fun e=>hnot (e ▸ hx)
 . intro j p hj;refine wpAny_bind (wpAny_dictEntries (s:={ s with toks:=s.toks+knd.draws k }) ho hd ?_);rw [entry_at he j,hj];exact wpAny_bind (wpAny_rule (wpAny_pure (h1 p (atKey_of_get hn hj))))
theorem zFC (knd:HeapKind prog w K)(d a:Addr)(hd:(d == sysModules)=false)(dflt:Value) : MeetsIn prog w (Builtin.«dict.setdefault» ⟨[.ref d,.ref a,dflt],[]⟩) (fun A R s=>knd.room A.in1/\∃ k xs,knd.is s.heap k a/\s.heap.DictOfH knd d xs/\xs.length<=sizeLine/\
     (∀ p,atKey xs k=some p->R (.ok (.ret p.2)) { s with toks:=s.toks+knd.draws k })/\
     (atKey xs k=none->∀ h',h'.DictOfH knd d (xs ++ [(k,a,dflt)])->Heap.SameBut d s.heap h'->R (.ok (.ret dflt)) { s with heap:=h',toks:=s.toks+knd.draws k })) :=
 .of_wp fun A R s ⟨hu,k,xs,hkey,hm,hz,h1,h2⟩=>by unfold Builtin.«dict.setdefault»;refine wpAny_bind ?_;unfold Builtin.Dict.keyAndDefault;refine wpAny_bind (wpAny_notOrdered_dict hm.typeIs ?_);show wpAny _ _ (pure (d,Value.ref a,some dflt)) _ _ s;refine wpAny_pure ?_;show wpAny _ _ (if (d == sysModules)=true then _ else (dictSetDefault d (.ref a) dflt >>= _)) _ _ s;rw [if_neg (by rw [hd];exact Bool.false_ne_true)];exact wpAny_bind (zFV hu hkey hm (fun p hp=>wpAny_pure ⟨p.2,rfl,h1 p hp⟩) (fun hn h' hm' hs'=>wpAny_pure ⟨dflt,rfl,h2 hn h' hm' hs'⟩) hz)
end
end PySem
namespace L2
open PySem PySem.Spec PyProof.Rows
abbrev zQR:=List Key×Addr×Value
def dX (P:Program)(w:World)(a:Addr)(xs:List zQR):HO :=
 .ext fun h=>xs.length<=sizeLine/\(a == sysModules)=false/\∃ o es ep,h.get? a=some o/\o.ExactDict/\o.data=.dict es ep/\es.toList=xs.map (entryOfKey (tupleKind (z4 P w)))/\(xs.map (·.1)).Nodup
def zMi (K:Fg)(H:Hp)(xs:List zQR):Prop:=∀ q∈xs,SqT K H q.2.1 (q.1.map kV)
theorem zXd {P:Program}{w:World}{H:Hp}{h:Heap}{a:Addr}{xs:List zQR}(z:xs.length<=sizeLine)(hd:(a == sysModules)=false)(d:∃ o es ep,h.get? a=some o/\o.ExactDict/\o.data=.dict es ep/\es.toList=xs.map (entryOfKey (tupleKind (z4 P w)))/\(xs.map (·.1)).Nodup) : jj P w H h a (dX P w a xs):=by obtain ⟨o,es,ep,h1,h2⟩:=d;refine ⟨⟨z,hd,o,es,ep,h1,h2⟩,⟨o,h1⟩,fun g1 g2 ⟨z',hd',o',es',ep',k1,k2⟩ kp=>⟨z',hd',o',es',ep',kp _ k1,k2⟩⟩
section
variable {X:Cx}{pins:Y2}{Z:L2.St}{H:Hp}{s:Shared}{a b:Addr}{xs:List zQR}{k:List Key}
theorem zMj (I:Inv X pins Z H s)(e:SqT X.K H b (k.map kV)):(tupleKind (z4 X.prog X.w)).is s.heap k b:=by obtain ⟨its,r,⟨o,h1,h2,n,h3⟩,_⟩:=I.tuple e;exact ⟨o,its.toArray,n,h1,h2,h3,by simpa using zIE r⟩
theorem zTx (I:Inv X pins Z H s)(e:H a=some (dX X.prog X.w a xs))(hk:zMi X.K H xs):xs.length<=sizeLine/\(a == sysModules)=false/\s.heap.DictOfH (tupleKind (z4 X.prog X.w)) a xs:=by obtain ⟨⟨z,hd,o,es,ep,h1,h2,h3,h4,h5⟩,_⟩:=I.hok a _ e;exact ⟨z,hd,o,es,ep,h1,h2,h3,h4,fun x hx=>zMj I (hk x hx),h5⟩
theorem zVu (I:Inv X pins Z H s)(e:H a=some (dX X.prog X.w a xs)):s.TypeIs (.ref a) "dict"/\(∀ b,Value.ref a=.ref b->∃ ob,s.heap.get? b=some ob/\ob.dict=none):=by obtain ⟨⟨z,hd,o,es,ep,h1,h2,h3,h4,h5⟩,_⟩:=I.hok a _ e;refine ⟨⟨o,h1,h2.1⟩,fun b q=>?_⟩;cases q;exact ⟨o,h1,h2.2.1⟩
theorem zPH {h' : Heap}{t' : Nat}{ys:List zQR}(I:Inv X pins Z H s)(e:H a=some (dX X.prog X.w a xs))(hd:(a == sysModules)=false)(hs:Heap.SameBut a s.heap h')(z:ys.length<=sizeLine)(dd:h'.DictOfH (tupleKind (z4 X.prog X.w)) a ys) : Inv X pins Z (upd H a (dX X.prog X.w a ys)) { s with heap:=h',toks:=t' }:=by obtain ⟨q,es,ep,hq,h2,h3,h4,_,h5⟩:=dd;exact zK8 I (by rw [e];exact True.intro) hs ⟨q,hq⟩ (zXd z hd ⟨q,es,ep,hq,h2,h3,h4,h5⟩)
end
def zUx (P:Program)(w:World):TE:=fun _ H Q=>∀ p,H p=none->Q (.ref p) (upd H p (dX P w p []))
def zXe (K:Fg)(P:Program)(w:World)(ty td:TE):TE:=fun Z H Q=>ty Z H fun y H1=>td Z H1 fun x H2=>∃ a b xs k,x=.ref a/\y=.ref b/\H2 a=some (dX P w a xs)/\zMi K H2 xs/\SqT K H2 b (k.map kV)/\Q (.bl (atKey xs k).isSome) H2
def zUy (K:Fg)(P:Program)(w:World)(td ty:TE):TE:=fun Z H Q=>td Z H fun x H1=>ty Z H1 fun y H2=>∃ a b xs k p v,x=.ref a/\y=.ref b/\H2 a=some (dX P w a xs)/\zMi K H2 xs/\SqT K H2 b (k.map kV)/\atKey xs k=some p/\RelV v p.2/\Q v H2
def zUz (K:Fg)(P:Program)(w:World)(td ty tv:TE):TS:=fun D Z H=>tv Z H fun v H1=>td Z H1 fun x H2=>ty Z H2 fun y H3=>∃ a b xs k,x=.ref a/\y=.ref b/\H3 a=some (dX P w a xs)/\zMi K H3 xs/\SqT K H3 b (k.map kV)/\xs.length < sizeLine/\∀ u,RelV v u->D.nx Z (upd H3 a (dX P w a (storedH xs k b u)))
def zU0 (K:Fg)(P:Program)(w:World)(td ty tx:TE):TE:=fun Z H Q=>td Z H fun x H1=>∃ a,x=.ref a/\(∃ xs,H1 a=some (dX P w a xs))/\ty Z H1 fun y H2=>tx Z H2 fun z H3=>∃ b xs k,y=.ref b/\H3 a=some (dX P w a xs)/\zMi K H3 xs/\SqT K H3 b (k.map kV)/\xs.length < sizeLine/\
 (∀ p,atKey xs k=some p->∃ v,RelV v p.2/\Q v H3)/\(atKey xs k=none->∀ u,RelV z u->Q z (upd H3 a (dX P w a (xs ++ [(k,b,u)]))))
theorem zNu (xs:List zQR)(k:List Key)(b:Addr)(u:Value):(storedH xs k b u).length<=xs.length+1:=by
 unfold storedH;split
 . rw [List.length_map];omega
 . rw [List.length_append];simp
section
variable {X:Cx}{o i e f value:Expr}{pos pos' tpos apos cpos:Pos}{td ty tv tx:TE}
theorem zTy:PE X (.Dict [] [] pos) (zUx X.prog X.w):=fun pins s Z H Q I h =>
 wpAny_Dict_empty ⟨.ref s.heap.objs.size,_,I.laid (a:=s.heap.objs.size) (o:=dX X.prog X.w s.heap.objs.size []) (t':=s.toks) (fun _ _ q=>Heap.get?_push_of_some _ q) (Nat.le_refl _)
   (zXd (Nat.zero_le _) (beq_eq_false_iff_ne.mpr (Ne.symm (Nat.ne_of_lt I.big))) ⟨_,#[],0,Heap.get?_push_size _ rfl,⟨rfl,rfl,rfl⟩,rfl,rfl,List.nodup_nil⟩),rfl,h _ (I.hok.fresh (Nat.le_refl _))⟩
theorem zVv (hu:X.A.units+1 < cLine)(hi:PE X i ty)(ho:PE X o td):PC X .In i o (zXe X.K X.prog X.w ty td):=by intro pins s Z H Q I h;refine thn (hi pins s Z H _ I h) fun iv s1 ⟨y,H1,I1,ry,q1⟩=>thn (ho pins s1 Z H1 _ I1 q1) ?_;rintro u s2 ⟨x,H2,I2,rx,a,b,xs,k,ex,ey,e,hk,hb,q2⟩;subst ex ey;obtain rfl:u=Value.ref a:=rx;obtain rfl:iv=Value.ref b:=ry;obtain ⟨z,hd,dd⟩:=zTx I2 e hk;exact wpAny_in_heap (tupleKind_room_in1 hu) (zMj I2 hb) hd dd ⟨.bl (atKey xs k).isSome,H2,I2.tok _,rfl,q2⟩
theorem zTz (hu:X.A.units+1 < cLine)(ho:PE X o td)(hi:PE X i ty)(hs:zYI i):PE X (.Subscript o i pos) (zUy X.K X.prog X.w td ty):=by intro pins s Z H Q I h;refine zNo PySem.F.slot_dict_getitem.lookup hs (thn (ho pins s Z H _ I h) fun u s1 ⟨x,H1,I1,rx,q1⟩=>thn (hi pins s1 Z H1 _ I1 q1) fun iv s2 ⟨y,H2,I2,ry,a,b,xs,k,p,v,ex,ey,e,hk,hb,hp,rv,q2⟩=>?_);subst ex ey;obtain rfl:u=Value.ref a:=rx;obtain rfl:iv=Value.ref b:=ry;obtain ⟨z,hd,dd⟩:=zTx I2 e hk;exact ⟨dd.typeIs,wpAny_getItem_heap (tupleKind_room_in1 hu) (zMj I2 hb) dd hp ⟨v,H2,I2.tok _,rv,q2⟩⟩
theorem zT0 (hu:X.A.units+1 < cLine)(ho:PE X o td)(hi:PE X i ty)(hv:PE X value tv)(hs:swapsWith value (some (.Subscript o i pos')) pos.line X.env=pure false) : PS X (.Assign [.Subscript o i pos'] value pos) (zUz X.K X.prog X.w td ty tv):=by intro pins s Z H D I h;refine wpAny_Assign_Subscript (thn (hv pins s Z H _ I h) fun r s1 ⟨v,H1,I1,rv,q1⟩=>thn (ho pins s1 Z H1 _ I1 q1) fun u s2 ⟨x,H2,I2,rx,q2⟩=>thn (hi pins s2 Z H2 _ I2 q2) fun iv s3 ⟨y,H3,I3,ry,a,b,xs,k,ex,ey,e,hk,hb,hl,q3⟩=>?_) hs;subst ex ey;obtain rfl:u=Value.ref a:=rx;obtain rfl:iv=Value.ref b:=ry;obtain ⟨z,hd,dd⟩:=zTx I3 e hk;refine wpAny_setItem_heap (hsz:=z) (tupleKind_room_in1 hu) (zMj I3 hb) dd fun h' dd' hs=>⟨Z,_,zPH I3 e hd hs (by have:=zNu xs k b r;omega) dd',q3 _ rv⟩
theorem zT1 (hu:X.A.units+1 < cLine)(ho:PE X o td)(he:PE X e ty)(hf:PE X f tx)(m:M2 X o "setdefault" apos e f cpos):PE X (.Call (.Attribute o "setdefault" apos) [e,f] [] cpos) (zU0 X.K X.prog X.w td ty tx):=by
 intro pins s Z H Q I h;refine wpAny_Call_method m.base m.few m.line PySem.F.plainAttrs_dict PySem.F.slot_dict_setdefault PySem.F.type_dict_setdefault (thn (ho pins s Z H _ I h) ?_);rintro u s1 ⟨x,H1,I1,rx,a,ex,⟨xs0,d⟩,q1⟩;subst ex;obtain rfl:u=Value.ref a:=rx;obtain ⟨t1,t2⟩:=zVu I1 d;refine ⟨t1,t2,?_⟩;rw [m.trees];refine Calls.callWith_builtin rfl (Calls.evalArgs_plain (Calls.spliced_cons (thn (he pins s1 Z H1 _ I1 q1) fun iv s2 ⟨y,H2,I2,ry,q2⟩ =>
   Calls.spliced_cons (thn (hf pins s2 Z H2 _ I2 q2) fun fv s3 ⟨z,H3,I3,rz,b,xs,k,ey,e3,hk,hb,hl,g1,g2⟩=>Calls.spliced_nil ?_))))
 subst ey;obtain rfl:iv=Value.ref b:=ry;obtain ⟨z,hd,dd⟩:=zTx I3 e3 hk;refine call_meetsIn PySem.F.slot_dict_setdefault dd.typeIs PySem.F.entry_dict_setdefault (PySem.F.args_dict_setdefault_3 _ _ _) (zFC (tupleKind (z4 X.prog X.w)) a b hd fv)
   ⟨tupleKind_room_in1 hu,k,xs,zMj I3 hb,dd,z,fun p hp=>?_,fun hn h' dd' hs=>?_⟩
 . obtain ⟨v,rv,q⟩:=g1 p hp;exact ⟨v,H3,I3.tok _,rv,q⟩
 . exact ⟨_,_,zPH I3 e3 hd hs (by rw [List.length_append];show _+1<=_;omega) dd',rz,g2 hn fv rz⟩
end
end L2
namespace PySem
open AutoSeq1 (wpAny_loadPart')
section
variable {prog:Program}{w:World}{A:Around}{E:Y1}{s:Shared}
theorem zMk {it t:Addr}{i:Nat}{items}{x:Value}{Q:Y1}(hit:s.heap.IsTupleIter it t i)(ht:s.heap.IsTuple t items)(hx:items[i]? = some x)(hQ:∀ h',h'.IsTupleIter it t (i+1)->Heap.SameBut it s.heap h'->Q x { s with heap:=h' }):wpAny (model prog w) A (Builtin.SmallTypes.nextOf (.ref it)) Q E s:=by obtain ⟨o,ho,hc,hd⟩:=id hit;obtain ⟨ol,hol,_,nl,hdl⟩:=ht;unfold Builtin.SmallTypes.nextOf;refine wpAny_bind (wpAny_callSpecial?_slot (name:=Str.ofString "__next__") hit.typeIs F.slot_tuple_iterator_next (wpAny_call_entry F.slot_tuple_iterator_next hit.typeIs F.entry_tuple_iterator_next ?_ (F.args_tuple_iterator_next_1 _)));show wpAny _ _ (field (.ref it) 0 >>= _) _ _ s;refine wpAny_bind (wpAny_field ho hd (x:=.ref t) rfl ?_);show wpAny _ _ (if (Value.ref t == Value.none)=true then _ else _) _ _ s;rw [if_neg (show ¬ ((Value.ref t == Value.none)=true) from Bool.false_ne_true)];show wpAny _ _ (field (.ref it) 1 >>= _) _ _ s;refine wpAny_bind (wpAny_field ho hd (x:=.int i 0) rfl ?_);show wpAny _ _ (seqItems? (.ref t) >>= _) _ _ s;refine wpAny_bind (wpAny_seqItems hol hdl ?_);simp only [Int.toNat_natCast,hx];refine wpAny_bind (wpAny_setField ho hd (by simp) (wpAny_pure ⟨x,rfl,wpAny_pure (hQ _ ⟨_,Heap.get?_update_self _ ho (Obj.isFreed_of_fields (Obj.data_mapFields hd _)),(Obj.cls_mapFields ..).trans hc,by rw [Obj.data_mapFields hd];simp [rawInt]⟩ (Heap.SameBut.update ..))⟩))
theorem zII {it t:Addr}{i:Nat}{items}{Q:Y1}(hh:A.handled=none)(hit:s.heap.IsTupleIter it t i)(ht:s.heap.IsTuple t items)(hx:items[i]? = none)(hE:∀ h' e,Heap.ExtBut it s.heap h'->(∃ o,h'.get? e=some o/\o.cls=.type "StopIteration")->E (.ref e) { s with heap:=h' }):wpAny (model prog w) A (Builtin.SmallTypes.nextOf (.ref it)) Q E s:=by
 obtain ⟨o,ho,hc,hd⟩:=id hit;obtain ⟨ol,hol,_,nl,hdl⟩:=ht;unfold Builtin.SmallTypes.nextOf;refine wpAny_bind (wpAny_callSpecial?_slot (name:=Str.ofString "__next__") hit.typeIs F.slot_tuple_iterator_next (wpAny_call_entry F.slot_tuple_iterator_next hit.typeIs F.entry_tuple_iterator_next ?_ (F.args_tuple_iterator_next_1 _)));show wpAny _ _ (field (.ref it) 0 >>= _) _ _ s;refine wpAny_bind (wpAny_field ho hd (x:=.ref t) rfl ?_);show wpAny _ _ (if (Value.ref t == Value.none)=true then _ else _) _ _ s;rw [if_neg (show ¬ ((Value.ref t == Value.none)=true) from Bool.false_ne_true)];show wpAny _ _ (field (.ref it) 1 >>= _) _ _ s;refine wpAny_bind (wpAny_field ho hd (x:=.int i 0) rfl ?_);show wpAny _ _ (seqItems? (.ref t) >>= _) _ _ s;refine wpAny_bind (wpAny_seqItems hol hdl ?_);simp only [Int.toNat_natCast,hx];refine wpAny_bind (wpAny_rule (wpAny_bind (wpAny_setField ho hd (by simp) ?_)));show wpAny _ _ (newExc (.type "StopIteration") [] >>= _) _ _ _;refine wpAny_bind ?_;simp only [newExc,newTuple];refine wpAny_bind (wpAny_newObj_type ?_ (by size_fits));refine wpAny_bind (m:=firstArgMember _ _) (wpAny_of_eq (a:=Value.none) (by first | rfl | (simp only [firstArgMember];rfl)) (wpAny_newObj_type ?_ (by size_fits)));simp only [raiseNew];refine wpAny_bind (wpAny_handled ?_)
 first | rw [show A.in1.handled=none from hh] | rw [hh]
 exact wpAny_bind (wpAny_pure (wpAny_throw (hE _ _ (((Heap.SameBut.update ..).extBut.push _).push _) ⟨_,Heap.get?_push_size _ rfl,rfl⟩)))
theorem zLI (hh:A.handled=none)(it t:Addr)(hne:t≠it)(items:Array Value):Draws prog w A it [it,t] items.size (fun i x=>items[i]? = some x) (fun i h=>h.IsTupleIter it t i/\h.IsTuple t items) where
 live:=fun i h st=>let ⟨⟨o,ho,_⟩,_⟩:=st;⟨o,ho⟩
 frame:=fun i h h' st k=>by obtain ⟨⟨o,ho,r⟩,⟨o2,ho2,r2⟩⟩:=st;exact ⟨⟨o,k it (by simp) o ho,r⟩,⟨o2,k t (by simp) o2 ho2,r2⟩⟩
 item:=fun i s Q E hi st hQ=>by obtain ⟨h1,h2⟩:=st;have e:items[i]? = some items[i]:=(by simp [hi]);refine zMk h1 h2 e fun h' hit' hs'=>hQ _ h' s.toks e ⟨hit',?_⟩ hs';obtain ⟨o2,ho2,r2⟩:=h2;exact ⟨o2,(hs'.2 t hne).trans ho2,r2⟩
 done:=fun s Q E st hE=>zII hh st.1 st.2 (by simp) hE
theorem zJa (hh:A.handled=none)(it l:Addr)(hne:l≠it)(items:Array Value):Draws prog w A it [it,l] items.size (fun i x=>items[i]? = some x) (fun i h=>h.IsListIter it l i/\h.IsList l items) where
 live:=fun i h st=>let ⟨⟨o,ho,_⟩,_⟩:=st;⟨o,ho⟩
 frame:=fun i h h' st k=>by obtain ⟨⟨o,ho,r⟩,⟨o2,ho2,r2⟩⟩:=st;exact ⟨⟨o,k it (by simp) o ho,r⟩,⟨o2,k l (by simp) o2 ho2,r2⟩⟩
 item:=fun i s Q E hi st hQ=>by obtain ⟨h1,h2⟩:=st;have e:items[i]? = some items[i]:=(by simp [hi]);refine wpAny_nextOf_list_item h1 h2 e fun h' hit' hs'=>hQ _ h' s.toks e ⟨hit',?_⟩ hs';obtain ⟨o2,ho2,r2⟩:=h2;exact ⟨o2,(hs'.2 l hne).trans ho2,r2⟩
 done:=fun s Q E st hE=>wpAny_nextOf_list_end hh st.1 st.2 (by simp) hE
theorem zLJ {e it:Addr}{fp:List Addr}{n i:Nat}{c:Int}{Pr:Nat->Value->Prop}{St:Nat->Heap->Prop}{old:Value}{Q:Y1}(D:Draws prog w A it fp n Pr St)(he:IsEnum s.heap e it c old)(hst:St i s.heap)(hlt:i < n)(hne:e≠it)(hef:e∉fp)(hQ:∀ x h' tk,Pr i x->IsEnumOut h' e it (c+1) x s.heap.objs.size->St (i+1) h'->h'.get? s.heap.objs.size=some { cls:=.type "tuple",data:=.seq #[.int c tk,x] }->h'.objs.size=s.heap.objs.size+1->
     (∀ b o,b≠e->b≠it->s.heap.get? b=some o->h'.get? b=some o)->Q (.ref s.heap.objs.size) { s with heap:=h',toks:=tk+1 }) :
   wpAny (model prog w) A (Builtin.«enumerate.__next__» ⟨[.ref e],[]⟩) (fun fin s'=>∃ v,fin=.done (.ret v)/\Q v s') E s:=by
 obtain ⟨hp,g,d,tk0,os⟩:=s;show wpAny _ _ (field (.ref e) 2 >>= _) _ _ _;refine wpAny_bind (wpAny_field he rfl (x:=.ref it) rfl (wpAny_bind (D.item i _ _ _ hlt hst fun x h1 tk hPx hit1 hs1=>?_)));replace hs1:Heap.SameBut it hp h1:=hs1;have he1:IsEnum h1 e it c old:=(hs1.2 e hne).trans he;show wpAny _ _ (field (.ref e) 3 >>= _) _ _ ⟨h1,g,d,tk,os⟩;refine wpAny_bind (wpAny_field he1 rfl (x:=rawInt c) rfl ?_);show wpAny _ _ (field (.ref e) 4 >>= _) _ _ ⟨h1,g,d,tk,os⟩;refine wpAny_bind (wpAny_field he1 rfl (x:=.none) rfl ?_);show wpAny _ _ (mkInt c >>= _) _ _ ⟨h1,g,d,tk,os⟩;refine wpAny_bind (wpAny_mkInt ?_);show wpAny _ _ (setField (.ref e) 3 (rawInt (c+1)) >>= _) _ _ ⟨h1,g,d,tk+1,os⟩;refine wpAny_bind (wpAny_setField_rec he1 (by simp) fun h2 he2 hs2=>?_);replace hs2:Heap.SameBut e h1 h2:=hs2;replace he2:IsEnum h2 e it (c+1) old:=he2;show wpAny _ _ (setField (.ref e) 4 .none >>= _) _ _ ⟨h2,g,d,tk+1,os⟩;refine wpAny_bind (wpAny_setField_rec he2 (by simp) fun h3 he3 hs3=>?_);replace hs3:Heap.SameBut e h2 h3:=hs3;replace he3:IsEnum h3 e it (c+1) old:=he3;show wpAny _ _ (newTuple [.int c tk,x] >>= _) _ _ ⟨h3,g,d,tk+1,os⟩;refine wpAny_bind (wpAny_newTuple ?_);have he4:IsEnum (h3.push { cls:=.type "tuple",data:=.seq #[.int c tk,x] }) e it (c+1) old:=Heap.get?_push_of_some _ he3;generalize hh4:h3.push { cls:=.type "tuple",data:=.seq #[.int c tk,x] } = h4 at he4;have hsz:h3.objs.size=hp.objs.size:=by rw [hs3.1,hs2.1,hs1.1]
 have hel:e < hp.objs.size:=Heap.lt_size he;have ht4:h4.get? hp.objs.size=some { cls:=.type "tuple",data:=.seq #[.int c tk,x] }:=by rw [<- hh4,<- hsz];exact Heap.get?_push_size _ rfl
 have hz4:h4.objs.size=hp.objs.size+1:=(by rw [<- hh4,Heap.size_push,hsz]);have hk4:∀ b o,b≠e->b≠it->hp.get? b=some o->h4.get? b=some o:=fun b o q1 q2 hb=>by rw [<- hh4];exact Heap.get?_push_of_some _ (hs3.extBut b o q1 (hs2.extBut b o q1 (hs1.extBut b o q2 hb)))
 have hit4:St (i+1) h4:=D.frame _ _ _ hit1 fun b hb o y=>by have q1:b≠e:=fun q=>hef (q ▸ hb);rw [<- hh4];exact Heap.get?_push_of_some _ (hs3.extBut b o q1 (hs2.extBut b o q1 y))
 show wpAny _ _ (Builtin.SmallTypes.ownedTupleIsFree (.ref e) >>= _) _ _ ⟨h4,g,d,tk+1,os⟩;rw [hsz];clear hh4 he3 hs3 he2 hs2 he1 hs1 hit1 hsz h3 h2 h1;refine wpAny_bind ?_;unfold Builtin.SmallTypes.ownedTupleIsFree;refine wpAny_bind (wpAny_field he4 rfl (x:=.none) rfl (wpAny_pure ?_));simp only [if_true];refine wpAny_bind (wpAny_rule (wpAny_bind (wpAny_field he4 rfl (x:=old) rfl (wpAny_bind (wpAny_setField_rec he4 (by simp) fun h5 he5 hs5=>?_)))));replace hs5:Heap.SameBut e h4 h5:=hs5;replace he5:IsEnum h5 e it (c+1) x:=he5;show wpAny _ _ (Builtin.SmallTypes.ownedTupleHandOut (.ref e) (.ref hp.objs.size) >>= _) _ _ ⟨h5,g,d,tk+1,os⟩;refine wpAny_bind ?_;unfold Builtin.SmallTypes.ownedTupleHandOut;refine wpAny_bind (wpAny_setField_rec he5 (by simp) fun h6 he6 hs6=>?_);replace hs6:Heap.SameBut e h5 h6:=hs6;replace he6:IsEnumOut h6 e it (c+1) x hp.objs.size:=he6;refine wpAny_setField_rec he6 (by simp) fun h7 he7 hs7=>?_;replace hs7:Heap.SameBut e h6 h7:=hs7;replace he7:IsEnumOut h7 e it (c+1) x hp.objs.size:=he7;have k7:∀ b o,b≠e->h4.get? b=some o->h7.get? b=some o:=fun b o q y=>hs7.extBut b o q (hs6.extBut b o q (hs5.extBut b o q y));exact wpAny_bind (wpAny_letGo (wpAny_pure ⟨_,rfl,hQ x h7 tk hPx he7 (D.frame _ _ _ hit4 fun b hb o y=>k7 b o (fun q=>hef (q ▸ hb)) y) (k7 _ _ (Nat.ne_of_gt hel) ht4) (by rw [hs7.1,hs6.1,hs5.1,hz4]) fun b o q1 q2 hb=>k7 b o q1 (hk4 b o q1 q2 hb)⟩))
theorem zF1 {e it:Addr}{fp:List Addr}{n i:Nat}{c:Int}{Pr:Nat->Value->Prop}{St:Nat->Heap->Prop}{old:Value}{Q:Option Value->Shared->Prop}(D:Draws prog w A.in1 it fp n Pr St)(he:IsEnum s.heap e it c old)(hst:St i s.heap)(hlt:i < n)(hne:e≠it)(hef:e∉fp)(hQ:∀ x h' tk,Pr i x->IsEnumOut h' e it (c+1) x s.heap.objs.size->St (i+1) h'->h'.get? s.heap.objs.size=some { cls:=.type "tuple",data:=.seq #[.int c tk,x] }->h'.objs.size=s.heap.objs.size+1->
     (∀ b o,b≠e->b≠it->s.heap.get? b=some o->h'.get? b=some o)->Q (some (.ref s.heap.objs.size)) { s with heap:=h',toks:=tk+1 }):wpAny (model prog w) A (pyNext (.ref e)) Q E s:=by
 have hT:s.TypeIs (.ref e) "enumerate":=⟨_,he,rfl⟩;unfold pyNext;exact wpAny_bind (wpAny_attempt (wpAny_callSpecial?_slot (name:=Str.ofString "__next__") hT F.slot_enumerate_next (wpAny_call_entry F.slot_enumerate_next hT F.entry_enumerate_next
     (zLJ D he hst hlt hne hef fun x h' tk a b c d k q=>wpAny_pure (hQ x h' tk a b c d k q)) (F.args_enumerate_next_1 _))))
end
end PySem
namespace L2
open PySem PySem.Spec PyProof.Rows
def ItE (S:Hp->List V->Prop)(c:Int):It :=
 ⟨fun i H=>∃ (xs:List V)(x:V),S H xs/\xs[i]? = some x,fun i H v H'=>∃ T x,v=.ref T/\H T=none/\H' = upd H T (.tup [.int (c+(i:Nat)),x])/\∀ xs,S H xs->xs[i]? = some x,fun i H=>∃ xs:List V,S H xs/\xs.length<=i⟩
section
variable {P:Program}{w:World}{K:Fg}{elts:List Expr}{kk:Nat}{tpos:Pos}
theorem zQS (c:Int)(a e it:Addr) : Turn P w K (.Tuple elts kk tpos) (ItE (fun H xs=>SqL K H a xs) c) [e,it] e (fun i h=>(∃ old,IsEnum h e it (c+(i:Nat)) old)/\h.IsListIter it a i/\e≠it/\a≠it/\e≠a) where
 mem:=by simp
 obj:=fun i h st b hb=>by
   obtain ⟨⟨old,he⟩,⟨o,ho,hc,hd⟩,_⟩:=st;have e' : b=e\/b=it:=(by simpa using hb);rcases e' with z | z
   . rw [z];exact ⟨_,he,fun v q=>nomatch q⟩
   . rw [z];exact ⟨o,ho,fun v q=>by rw [hd] at q;cases q⟩
 keep:=fun i h h' st k=>let ⟨⟨old,he⟩,hi,hne⟩:=st;⟨⟨old,k e (by simp) _ he⟩,hi.at fun o q=>k it (by simp) o q,hne⟩
 item:=by
   intro X hP hw hK hc i pins s Z H E I hf st hg;subst hP hw hK;obtain ⟨⟨old,he⟩,hit,hne,hai,hea⟩:=st;obtain ⟨xs,x,hq,hx⟩:=hg;obtain ⟨its,rv,p,hz⟩:=I.list hq;obtain ⟨u,hu,ru⟩:=rv.get hx;have hel:e < s.heap.objs.size:=Heap.lt_size he;have hil:it < s.heap.objs.size:=by obtain ⟨_,q,_⟩:=hit;exact Heap.lt_size q
   have hlt:i < its.toArray.size:=by rw [List.size_toArray];exact (List.getElem?_eq_some_iff.mp hu).1
   refine zF1 (zJa (A:=X.A.in1) (I.ok.hd hc) it a hai its.toArray) he ⟨hit,p.isList⟩ hlt hne (by simp;exact ⟨hne,hea⟩) fun y h' tk hy ho hst hT hsz hk=>?_;have hyu:y=u:=by have e1:its.toArray[i]? = some u:=(by simpa using hu);rw [e1] at hy;exact (Option.some.inj hy).symm
   subst hyu;refine ⟨_,rfl,wpAny_letOwnedTupleGo_enum (s:={ s with heap:=h',toks:=tk+1 }) ho fun h'' he' sb=>?_⟩;have hT2:h''.get? s.heap.objs.size=some { cls:=.type "tuple",data:=.seq #[.int (c+(i:Nat)) tk,y] }:=(sb.2 _ (Nat.ne_of_gt hel)).trans hT;have new:jj X.prog X.w (upd H s.heap.objs.size (.tup [.int (c+(i:Nat)),x])) h'' s.heap.objs.size (.tup [.int (c+(i:Nat)),x]) :=
     ⟨by show 2<=sizeLine;decide,[.int (c+(i:Nat)) tk,y],.cons ⟨_,rfl⟩ (.cons ru .nil),⟨_,hT2,rfl,_,rfl⟩⟩
   have I1:Inv X pins Z (upd H s.heap.objs.size (.tup [.int (c+(i:Nat)),x])) { s with heap:=h'',toks:=tk+1 } :=
     I.zIF (ch:=[e,it]) (fun b ob hb q=>(sb.2 b (fun z=>hb (by simp [z]))).trans (hk b ob (fun z=>hb (by simp [z])) (fun z=>hb (by simp [z])) q)) hf (Nat.le_refl _) new
   refine ⟨.ref s.heap.objs.size,_,I1,rfl,⟨_,x,rfl,I.hok.fresh (Nat.le_refl _),rfl,fun ys hy=>by rw [I.zKu hy hq];exact hx⟩,⟨⟨y,?_⟩,hst.1.at fun o q=>(sb.2 it (Ne.symm hne)).trans q,hne,hai,hea⟩,fun b hb=>?_⟩
   . have e1:(c+((i+1:Nat):Int))=c+(i:Int)+1:=(by omega);rw [e1];exact he'
   . have hb' : b < s.heap.objs.size:=by
       have e' : b=e\/b=it:=(by simpa using hb);rcases e' with z | z
       . rw [z];exact hel
       . rw [z];exact hil
     rw [zF (Nat.ne_of_lt hb')];exact (hf b hb).1
 done:=by intro X hP hw hK hc i pins s Z H E I hf st hg;subst hP hw hK;obtain ⟨⟨old,he⟩,hit,hne,hai,hea⟩:=st;obtain ⟨xs,hq,hx⟩:=hg;obtain ⟨its,rv,p,hz⟩:=I.list hq;obtain ⟨f0,f1,f2,f3,f4,f5⟩:=hf it (by simp);have hl:=rv.length;have hT:s.TypeIs (.ref e) "enumerate":=⟨_,he,rfl⟩;unfold pyNext;refine wpAny_bind (wpAny_attempt (wpAny_callSpecial?_slot (name:=Str.ofString "__next__") hT F.slot_enumerate_next (wpAny_call_entry F.slot_enumerate_next hT F.entry_enumerate_next ?_ (F.args_enumerate_next_1 _))));show wpAny _ _ (field (.ref e) 2 >>= _) _ _ _;refine wpAny_bind (wpAny_field he rfl (x:=.ref it) rfl ?_);refine wpAny_bind (wpAny_nextOf_list_end (A:=X.A.in1) (I.ok.hd hc) hit p.isList (by simp;omega) fun h' x he' hx'=>?_);obtain ⟨o,ho,hcl⟩:=hx';exact wpAny_bind (wpAny_isInstance (T := "StopIteration") (b:=true) ⟨o,ho,hcl⟩ isSubtype_stop (wpAny_pure ⟨rfl,I.turned (t':=s.toks) (fun b o hb q=>he' b o hb q) f0 f1 f3 f4 f5⟩))
 self:=fun A i s Q E st h=>let ⟨⟨_,he⟩,_⟩:=st;wpAny_pyIter_enum he h
theorem zQT (c:Int)(a e it:Addr) : Turn P w K (.Tuple elts kk tpos) (ItE (fun H xs=>SqT K H a xs) c) [e,it] e (fun i h=>(∃ old,IsEnum h e it (c+(i:Nat)) old)/\h.IsTupleIter it a i/\e≠it/\a≠it/\e≠a) where
 mem:=by simp
 obj:=fun i h st b hb=>by
   obtain ⟨⟨old,he⟩,⟨o,ho,hc,hd⟩,_⟩:=st;have e' : b=e\/b=it:=(by simpa using hb);rcases e' with z | z
   . rw [z];exact ⟨_,he,fun v q=>nomatch q⟩
   . rw [z];exact ⟨o,ho,fun v q=>by rw [hd] at q;cases q⟩
 keep:=fun i h h' st k=>let ⟨⟨old,he⟩,⟨o,ho,hi⟩,hne⟩:=st;⟨⟨old,k e (by simp) _ he⟩,⟨o,k it (by simp) o ho,hi⟩,hne⟩
 item:=by
   intro X hP hw hK hc i pins s Z H E I hf st hg;subst hP hw hK;obtain ⟨⟨old,he⟩,hit,hne,hai,hea⟩:=st;obtain ⟨xs,x,hq,hx⟩:=hg;obtain ⟨its,rv,p,hz⟩:=I.tuple hq;obtain ⟨u,hu,ru⟩:=rv.get hx;have hel:e < s.heap.objs.size:=Heap.lt_size he;have hil:it < s.heap.objs.size:=by obtain ⟨_,q,_⟩:=hit;exact Heap.lt_size q
   have hlt:i < its.toArray.size:=by rw [List.size_toArray];exact (List.getElem?_eq_some_iff.mp hu).1
   refine zF1 (zLI (A:=X.A.in1) (I.ok.hd hc) it a hai its.toArray) he ⟨hit,p⟩ hlt hne (by simp;exact ⟨hne,hea⟩) fun y h' tk hy ho hst hT hsz hk=>?_;have hyu:y=u:=by have e1:its.toArray[i]? = some u:=(by simpa using hu);rw [e1] at hy;exact (Option.some.inj hy).symm
   subst hyu;refine ⟨_,rfl,wpAny_letOwnedTupleGo_enum (s:={ s with heap:=h',toks:=tk+1 }) ho fun h'' he' sb=>?_⟩;have hT2:h''.get? s.heap.objs.size=some { cls:=.type "tuple",data:=.seq #[.int (c+(i:Nat)) tk,y] }:=(sb.2 _ (Nat.ne_of_gt hel)).trans hT;have new:jj X.prog X.w (upd H s.heap.objs.size (.tup [.int (c+(i:Nat)),x])) h'' s.heap.objs.size (.tup [.int (c+(i:Nat)),x]) :=
     ⟨by show 2<=sizeLine;decide,[.int (c+(i:Nat)) tk,y],.cons ⟨_,rfl⟩ (.cons ru .nil),⟨_,hT2,rfl,_,rfl⟩⟩
   have I1:Inv X pins Z (upd H s.heap.objs.size (.tup [.int (c+(i:Nat)),x])) { s with heap:=h'',toks:=tk+1 } :=
     I.zIF (ch:=[e,it]) (fun b ob hb q=>(sb.2 b (fun z=>hb (by simp [z]))).trans (hk b ob (fun z=>hb (by simp [z])) (fun z=>hb (by simp [z])) q)) hf (Nat.le_refl _) new
   refine ⟨.ref s.heap.objs.size,_,I1,rfl,⟨_,x,rfl,I.hok.fresh (Nat.le_refl _),rfl,fun ys hy=>by rw [I.zMO hy hq];exact hx⟩,⟨⟨y,?_⟩,let ⟨o,ho,r⟩:=hst.1;⟨o,(sb.2 it (Ne.symm hne)).trans ho,r⟩,hne,hai,hea⟩,fun b hb=>?_⟩
   . have e1:(c+((i+1:Nat):Int))=c+(i:Int)+1:=(by omega);rw [e1];exact he'
   . have hb' : b < s.heap.objs.size:=by
       have e' : b=e\/b=it:=(by simpa using hb);rcases e' with z | z
       . rw [z];exact hel
       . rw [z];exact hil
     rw [zF (Nat.ne_of_lt hb')];exact (hf b hb).1
 done:=by intro X hP hw hK hc i pins s Z H E I hf st hg;subst hP hw hK;obtain ⟨⟨old,he⟩,hit,hne,hai,hea⟩:=st;obtain ⟨xs,hq,hx⟩:=hg;obtain ⟨its,rv,p,hz⟩:=I.tuple hq;obtain ⟨f0,f1,f2,f3,f4,f5⟩:=hf it (by simp);have hl:=rv.length;have hT:s.TypeIs (.ref e) "enumerate":=⟨_,he,rfl⟩;unfold pyNext;refine wpAny_bind (wpAny_attempt (wpAny_callSpecial?_slot (name:=Str.ofString "__next__") hT F.slot_enumerate_next (wpAny_call_entry F.slot_enumerate_next hT F.entry_enumerate_next ?_ (F.args_enumerate_next_1 _))));show wpAny _ _ (field (.ref e) 2 >>= _) _ _ _;refine wpAny_bind (wpAny_field he rfl (x:=.ref it) rfl ?_);refine wpAny_bind (zII (A:=X.A.in1) (I.ok.hd hc) hit p (by simp;omega) fun h' x he' hx'=>?_);obtain ⟨o,ho,hcl⟩:=hx';exact wpAny_bind (wpAny_isInstance (T := "StopIteration") (b:=true) ⟨o,ho,hcl⟩ isSubtype_stop (wpAny_pure ⟨rfl,I.turned (t':=s.toks) (fun b o hb q=>he' b o hb q) f0 f1 f3 f4 f5⟩))
 self:=fun A i s Q E st h=>let ⟨⟨_,he⟩,_⟩:=st;wpAny_pyIter_enum he h
end
end L2
namespace PySem
open AutoSeq1 (wpAny_loadPart')
theorem zLK (t:Addr)(items:Array Value)(n:Nat)(dct:Option Addr)(sl:Array (Option Value)) : Meets (Builtin.«enumerate.__new__» ⟨[.type "enumerate",.ref t],[]⟩) (fun _ R s=>s.heap.get? t=some { cls:=.type "tuple",dict:=dct,data:=.seq items n,slots:=sl }/\
     R (.ok (.ret (.ref (s.heap.push { cls:=.type "tuple_iterator",data:=.fields #[.ref t,.int 0 0] }).objs.size)))
       { s with heap:=(s.heap.push { cls:=.type "tuple_iterator",data:=.fields #[.ref t,.int 0 0] }).push { cls:=.type "enumerate",data:=.fields #[.none,.bool false,.ref s.heap.objs.size,rawInt 0,.none,.none] } }) :=
 .of_wp fun prog w A R s h=>by
   obtain ⟨hp,g,d,tk,os⟩:=s;obtain ⟨ht,h⟩:=h;have hsub:=sub_enumerate;have hT:Heap.IsTuple (Shared.heap ⟨hp,g,d,tk,os⟩) t items:=⟨_,ht,rfl,n,rfl⟩
   wp_walk using wpAny_loadPart' ht
   refine wpAny_stack_any fun st=>wpAny_pure ?_;split
   . rename_i c _ _ _ _ _;cases (c == Value.type "enumerate") <;> (wp_walk using wpAny_loadPart' ht,wpAny_pyIter_tuple hT;exact ⟨_,rfl,h⟩)
   . wp_walk using wpAny_loadPart' ht,wpAny_pyIter_tuple hT;exact ⟨_,rfl,h⟩
theorem zLL (l:Addr)(items:Array Value)(n:Nat)(dct:Option Addr)(sl:Array (Option Value))(tk0:Tok) : Meets (Builtin.«enumerate.__new__» ⟨[.type "enumerate",.ref l],[("start",.int 1 tk0)]⟩) (fun _ R s=>s.heap.get? l=some { cls:=.type "list",dict:=dct,data:=.seq items n,slots:=sl }/\
     R (.ok (.ret (.ref (s.heap.push { cls:=.type "list_iterator",data:=.fields #[.ref l,.int 0 0] }).objs.size)))
       { s with heap:=(s.heap.push { cls:=.type "list_iterator",data:=.fields #[.ref l,.int 0 0] }).push { cls:=.type "enumerate",data:=.fields #[.none,.bool false,.ref s.heap.objs.size,rawInt 1,.none,.none] } }) :=
 .of_wp fun prog w A R s h=>by
   obtain ⟨hp,g,d,tk,os⟩:=s;obtain ⟨hl,h⟩:=h;have hsub:=sub_enumerate;have hL:Heap.IsList (Shared.heap ⟨hp,g,d,tk,os⟩) l items:=⟨_,hl,rfl,n,rfl⟩
   wp_walk using wpAny_loadPart' hl
   refine wpAny_stack_any fun st=>wpAny_pure ?_;split
   . rename_i c _ _ _ _ _;cases (c == Value.type "enumerate") <;> (wp_walk using wpAny_loadPart' hl,wpAny_pyIter_list hL;exact ⟨_,rfl,h⟩)
   . wp_walk using wpAny_loadPart' hl,wpAny_pyIter_list hL;exact ⟨_,rfl,h⟩
section
variable {prog:Program}{w:World}{A:Around}{E:Y1}{s:Shared}
theorem zJb {t:Addr}{items:Array Value}{Q:Y1}(hL:s.heap.IsTuple t items)(h:∀ h',IsEnum h' (s.heap.objs.size+1) s.heap.objs.size 0 .none->h'.IsTupleIter s.heap.objs.size t 0->(∀ b o,s.heap.get? b=some o->h'.get? b=some o)->Q (.ref (s.heap.objs.size+1)) { s with heap:=h' }) : wpAny (model prog w) A (call (.type "enumerate") [.ref t]) Q E s:=by
 obtain ⟨⟨c,dct,dt,sl⟩,hl,hc,n,hd⟩:=hL;replace hc:c=.type "tuple":=hc;replace hd:dt=.seq items n:=hd;subst hc hd;refine callType_new F.called_enumerate (by decide) (F.typeCall_enumerate_1 _) (F.newCall_enumerate_1 _) (fun obj=>F.args_object_init_2 obj _) F.entry_enumerate_new (zLK t items n dct sl) ⟨hl,?_⟩;have hz:(s.heap.push { cls:=.type "tuple_iterator",data:=.fields #[.ref t,.int 0 0] }).objs.size=s.heap.objs.size+1:=Heap.size_push ..;show _/\_;rw [hz];have he:IsEnum ((s.heap.push { cls:=.type "tuple_iterator",data:=.fields #[.ref t,.int 0 0] }).push { cls:=.type "enumerate",data:=.fields #[.none,.bool false,.ref s.heap.objs.size,rawInt 0,.none,.none] }) (s.heap.objs.size+1) s.heap.objs.size 0 .none:=by have:=Heap.get?_push_size (s.heap.push { cls:=.type "tuple_iterator",data:=.fields #[.ref t,.int 0 0] }) (o:={ cls:=.type "enumerate",data:=.fields #[.none,.bool false,.ref s.heap.objs.size,rawInt 0,.none,.none] }) rfl;rw [hz] at this;exact this
 exact ⟨⟨_,he,rfl⟩,h _ he ⟨_,Heap.get?_push_of_some _ (Heap.get?_push_size _ rfl),rfl,rfl⟩ fun b o x=>Heap.get?_push_of_some _ (Heap.get?_push_of_some _ x)⟩
end
end PySem
namespace L2
open PySem PySem.Spec PyProof.Rows
def zXf (K:Fg)(ta:TA):TI:=fun Z H R=>ta Z H fun vs H1=>∃ a xs,vs=[.ref a]/\SqT K H1 a xs/\R (ItE (fun H xs=>SqT K H a xs) 0) H1
theorem zT2 {X:Cx}{e:Expr}{ta:TA}{p pos tpos:Pos}{elts:List Expr}{kk:Nat}(hg:Gl X "enumerate")(hm:X.mg "enumerate" = none)(ha:PA X [e] ta)(hs:starEach [e] X.env=[(false,eval e X.env)]:=by rfl) : PI X (.Tuple elts kk tpos) (.Call (.Name "enumerate" p) [e] [] pos) (zXf X.K ta):=by
 intro pins s Z H R I h;refine Call_ (zHz I hg hm boot_enumerate (PyProof.Rows.callWith_type1 (thn (ha pos pins s Z H _ I h) ?_) hs rfl));rintro us s1 ⟨vs,H1,I1,r1,q1⟩;obtain ⟨a,xs,ex,hq,q⟩:=q1;subst ex;cases r1 with
 | cons r rr =>
   cases rr;cases r;obtain ⟨its,rv,p',hz⟩:=I1.tuple hq;have hal:a < s1.heap.objs.size:=by obtain ⟨o,ho,_⟩:=p';exact Heap.lt_size ho
   refine zJb p' fun h' he hit hk=>wpAny_pyIter_enum he ?_;have I2:Inv X pins Z H1 { s1 with heap:=h' }:=I1.kept (t':=s1.toks) hk;refine ⟨s1.heap.objs.size+1,[s1.heap.objs.size+1,s1.heap.objs.size],_,_,H1,rfl,I2,zQT 0 a (s1.heap.objs.size+1) s1.heap.objs.size,⟨⟨.none,by simpa using he⟩,hit,Nat.succ_ne_self _,Nat.ne_of_lt hal,Nat.ne_of_gt (Nat.lt_succ_of_lt hal)⟩,fun b hb=>?_,q⟩;have e' : b=s1.heap.objs.size+1\/b=s1.heap.objs.size:=by simpa using hb
   have hle:s1.heap.objs.size<=b:=by
     rcases e' with z | z
     . rw [z];exact Nat.le_add_right _ _
     . rw [z];exact Nat.le_refl _
   exact I1.zUh hle (I1.hok.fresh hle)
theorem zR5 {S:Hp->List V->Prop}{c:Int}{xs:List V}{g:TG}{tb:TS}{D:Ends}{Z:L2.St}{H:Hp}(Pv:Nat->L2.St->Hp->Prop)(h0:Pv 0 Z H)(hl:∀ i Z H,i<=xs.length->Pv i Z H->S H xs)(hs:∀ i x Z H T,xs[i]? = some x->Pv i Z H->H T=none->g (.ref T) Z (upd H T (.tup [.int (c+(i:Nat)),x])) fun σ2 H2=>tb { D with nx:=Pv (i+1),ct:=Pv (i+1),bk:=D.nx } σ2 H2)(hd:∀ Z H,Pv xs.length Z H->D.nx Z H) : ∃ W:Nat->Nat->L2.St->Hp->Prop,(∃ m,W 0 m Z H)/\∀ i m Z H,W i m Z H->
     ((ItE S c).stop i H/\D.nx Z H)\/((ItE S c).go i H/\∃ N:L2.St->Hp->Prop,(∀ Z' H',N Z' H'->∃ m',m' < m/\W (i+1) m' Z' H')/\∀ x H',(ItE S c).yld i H x H'->g x Z H' fun σ2 H2=>tb { D with nx:=N,ct:=N,bk:=D.nx } σ2 H2):=by
 refine ⟨fun i m Z H=>m=xs.length - i/\i<=xs.length/\Pv i Z H,⟨xs.length,by simp,Nat.zero_le _,h0⟩,?_⟩;rintro i m Z H ⟨rfl,hi,pv⟩;have hf:=hl i Z H hi pv;by_cases e:i < xs.length
 . have ex:xs[i]? = some xs[i]:=List.getElem?_eq_getElem e;refine .inr ⟨⟨xs,xs[i],hf,ex⟩,Pv (i+1),fun Z' H' h=>⟨_,by omega,rfl,by omega,h⟩,?_⟩;rintro x H' ⟨T,y,rfl,nT,rfl,hy⟩;have:=hy xs hf;exact hs i y Z H T this pv nT
 . have:i=xs.length:=(by omega);subst this;exact .inl ⟨⟨xs,hf,Nat.le_refl _⟩,hd Z H pv⟩
theorem zLM {K:Fg}{a:Addr}{xs:List V}{g:TG}{tb:TS}{D:Ends}{Z:L2.St}{H:Hp}(Pv:Nat->L2.St->Hp->Prop)(h0:Pv 0 Z H)(hl:∀ i Z H,i<=xs.length->Pv i Z H->SqL K H a xs)(hs:∀ i x Z H T,xs[i]? = some x->Pv i Z H->H T=none->g (.ref T) Z (upd H T (.tup [.int (i:Nat),x])) fun σ2 H2=>tb { D with nx:=Pv (i+1),ct:=Pv (i+1),bk:=D.nx } σ2 H2)(hd:∀ Z H,Pv xs.length Z H->D.nx Z H) : ∃ W:Nat->Nat->L2.St->Hp->Prop,(∃ m,W 0 m Z H)/\∀ i m Z H,W i m Z H->
     ((Ite K a).stop i H/\D.nx Z H)\/((Ite K a).go i H/\∃ N:L2.St->Hp->Prop,(∀ Z' H',N Z' H'->∃ m',m' < m/\W (i+1) m' Z' H')/\∀ x H',(Ite K a).yld i H x H'->g x Z H' fun σ2 H2=>tb { D with nx:=N,ct:=N,bk:=D.nx } σ2 H2):=by
 refine ⟨fun i m Z H=>m=xs.length - i/\i<=xs.length/\Pv i Z H,⟨xs.length,by simp,Nat.zero_le _,h0⟩,?_⟩;rintro i m Z H ⟨rfl,hi,pv⟩;have hf:=hl i Z H hi pv;by_cases e:i < xs.length
 . have ex:xs[i]? = some xs[i]:=List.getElem?_eq_getElem e;refine .inr ⟨⟨xs,xs[i],hf,ex⟩,Pv (i+1),fun Z' H' h=>⟨_,by omega,rfl,by omega,h⟩,?_⟩;rintro x H' ⟨T,y,rfl,nT,rfl,hy⟩;have:=hy xs hf;exact hs i y Z H T this pv nT
 . have:i=xs.length:=(by omega);subst this;exact .inl ⟨⟨xs,hf,Nat.le_refl _⟩,hd Z H pv⟩
end L2
namespace PySem
theorem zHY {M:Model}{A:Around}{E:Y1}{s:Shared}{pos:Pos}{T:String}{args:List (Bool×Sem Value)}{keywords:List (Option Str×Sem Value)}{Q:Y1}(hplain:args.any (·.1)=false)(hkw:keywords.any (·.1.isNone)=false)(h:wpAny M A (evalArgs (.type T) true args keywords) (fun a s₁=>wpAny M A (call (.type T) ([] ++ a.pos) a.kw) Q E s₁) E s):wpAny M A (callWith pos (.type T) [] args keywords) Q E s:=by unfold callWith;refine wpAny_bind (wpAny_holding (wpAny_mono h (fun a s1 h1=>wpAny_bind (wpAny_standAt ?_)) fun _ _ x=>x));simp only [hplain,hkw,Bool.or_false];exact wpAny_bind (wpAny_pure (wpAny_bind (wpAny_mono h1 (fun r s2 hr=>wpAny_bind (wpAny_holding (wpAny_point (wpAny_pure hr)))) fun _ _ x=>x)))
theorem zLN (a b:Value):checkTypeCall "enumerate" ⟨[a],[("start",b)]⟩=pure ():=by kernel_rfl
theorem zMl (a b:Value):checkBuiltinCall "enumerate.__new__" ⟨[.type "enumerate",a],[("start",b)]⟩=pure ():=by kernel_rfl
theorem zR6 (o a b:Value):argsOk "object.__init__" ⟨[o,a],[("start",b)]⟩:=by
 first | kernel_rfl | (unfold argsOk;kernel_rfl) | (show _=_;kernel_rfl)
theorem zR7 {self a b:Value}(hl:typeLookup (.type "enumerate") "__init__" = pure (some (.builtin "object.__init__")))(hm:Bind.madeBy (.type "enumerate")=pure (some "enumerate.__new__")) : Meets (Builtin.«object.__init__» ⟨[self,a],[("start",b)]⟩) (fun _ R s=>s.TypeIs self "enumerate"/\R (.ok (.ret .none)) s):=by
 refine Meets.of_wp fun prog w A R s hs=>?_;obtain ⟨hT,hq⟩:=hs
 repeat (any_goals (first | assumption | wp_step))
 exact ⟨_,rfl,hq⟩
section
variable {prog:Program}{w:World}{A:Around}{E:Y1}{s:Shared}
theorem zJc {l:Addr}{items:Array Value}{tk0:Tok}{Q:Y1}(hL:s.heap.IsList l items)(h:∀ h',IsEnum h' (s.heap.objs.size+1) s.heap.objs.size 1 .none->h'.IsListIter s.heap.objs.size l 0->(∀ b o,s.heap.get? b=some o->h'.get? b=some o)->Q (.ref (s.heap.objs.size+1)) { s with heap:=h' }) : wpAny (model prog w) A (call (.type "enumerate") [.ref l] [("start",.int 1 tk0)]) Q E s:=by
 obtain ⟨⟨c,dct,dt,sl⟩,hl,hc,n,hd⟩:=hL;replace hc:c=.type "list":=hc;replace hd:dt=.seq items n:=hd;subst hc hd;have ft:=F.called_enumerate;obtain ⟨c,tl,hmro⟩:=ft.mro;have hmade:=ft.made;have hsub:=ft.sub;have hct:=zLN (.ref l) (.int 1 tk0);have hcn:=zMl (.ref l) (.int 1 tk0);have g:=zLL l items n dct sl tk0;refine wpAny_call (codeAny_of_tree ?_);show wpAny _ _ (callAny (.type "enumerate") _) _ _ _;refine wpAny_pure ⟨Code.quiet_builtin _ (by decide +kernel),codeAny_builtin F.entry_type_call ?_⟩;rw [Around.under_plain (weight_type_call_type "enumerate" [.ref l] [("start",.int 1 tk0)]) (units_type_call_type "enumerate" [.ref l] [("start",.int 1 tk0)])];have h1:=ft.notType;have h2:=ft.canCreate
 repeat (any_goals (first | assumption | wp_step))
 have hz:(s.heap.push { cls:=.type "list_iterator",data:=.fields #[.ref l,.int 0 0] }).objs.size=s.heap.objs.size+1:=Heap.size_push ..;have he:IsEnum ((s.heap.push { cls:=.type "list_iterator",data:=.fields #[.ref l,.int 0 0] }).push { cls:=.type "enumerate",data:=.fields #[.none,.bool false,.ref s.heap.objs.size,rawInt 1,.none,.none] }) (s.heap.objs.size+1) s.heap.objs.size 1 .none:=by have:=Heap.get?_push_size (s.heap.push { cls:=.type "list_iterator",data:=.fields #[.ref l,.int 0 0] }) (o:={ cls:=.type "enumerate",data:=.fields #[.none,.bool false,.ref s.heap.objs.size,rawInt 1,.none,.none] }) rfl;rw [hz] at this;exact this
 have hq:wants (fun obj s1=>s1.TypeIs obj "enumerate"/\Q obj s1) E (.ok (.ret (.ref (s.heap.push { cls:=.type "list_iterator",data:=.fields #[.ref l,.int 0 0] }).objs.size))) { s with heap:=(s.heap.push { cls:=.type "list_iterator",data:=.fields #[.ref l,.int 0 0] }).push { cls:=.type "enumerate",data:=.fields #[.none,.bool false,.ref s.heap.objs.size,rawInt 1,.none,.none] } }:=by show _/\_;rw [hz];exact ⟨⟨_,he,rfl⟩,h _ he ⟨_,Heap.get?_push_of_some _ (Heap.get?_push_size _ rfl),rfl,rfl⟩ fun b o x=>Heap.get?_push_of_some _ (Heap.get?_push_of_some _ x)⟩
 refine codeAny_mono (codeAny_call_builtin ft.plain F.entry_enumerate_new (wpAny_of_eq hcn (g prog w A.in1 _ s ⟨hl,hq⟩))) fun r s1 hr=>?_;cases r with
 | error e=>exact hr
 | ok fl =>
   cases fl with
   | ret obj =>
     obtain ⟨hT,hq⟩:=hr;have hli:=ft.init.lookup;have hbi:=ft.init.bind obj
     repeat (any_goals (first | assumption | wp_step))
     refine codeAny_mono (codeAny_call_builtin ft.init.plain F.entry_object_init (ft.init.check _ _ _ _ _ _ _ _ hT (zR6 _ _ _) (zR7 ft.init.lookup ft.made prog w A.in1 (wants (fun r s2=>r=.none/\Q obj s2) E) s1 ⟨hT,rfl,hq⟩))) fun r2 s2 hr2=>?_;cases r2 with
     | error e=>exact hr2
     | ok fl2 =>
       cases fl2 with
       | ret r =>
         obtain ⟨rfl,hq⟩:=hr2
         repeat (any_goals (first | assumption | wp_step))
       | _=>exact hr2.elim
   | _=>exact hr.elim
end
end PySem
namespace L2
open PySem PySem.Spec PyProof.Rows
def zXg (K:Fg)(ta:TA)(tk:TE):TI:=fun Z H R=>ta Z H fun vs H1=>tk Z H1 fun y H2=>∃ a xs,vs=[.ref a]/\y=.int 1/\SqL K H2 a xs/\R (ItE (fun H xs=>SqL K H a xs) 1) H2
theorem zT3 {X:Cx}{e ke:Expr}{ta:TA}{tk:TE}{p pos tpos kpos:Pos}{elts:List Expr}{kk:Nat}(hg:Gl X "enumerate")(hm:X.mg "enumerate" = none)(ha:PA X [e] ta)(hk:PE X ke tk)(hs:starEach [e] X.env=[(false,eval e X.env)]:=by rfl) : PI X (.Tuple elts kk tpos) (.Call (.Name "enumerate" p) [e] [⟨some "start",ke,kpos⟩] pos) (zXg X.K ta tk):=by
 intro pins s Z H R I h;refine wpAny_Call_Name_kw (zHz I hg hm boot_enumerate (zHY (by rw [hs];rfl) rfl ?_));refine evalArgs_kw2 rfl (thn (ha pos pins s Z H _ I h) fun us s1 ⟨vs,H1,I1,r1,q1⟩=>?_) (by rw [hs];rfl);refine kwAll_cons (thn (hk pins s1 Z H1 _ I1 q1) fun u s2 ⟨y,H2,I2,ry,q2⟩=>kwAll_nil ?_);obtain ⟨a,xs,ex,ey,hq,q⟩:=q2;subst ex ey;obtain ⟨tk0,rfl⟩:=ry;cases r1 with
 | cons r rr =>
   cases rr;cases r;obtain ⟨its,rv,p',hz⟩:=I2.list hq;have hal:a < s2.heap.objs.size:=by obtain ⟨o,n,ho,_⟩:=p';exact Heap.lt_size ho
   refine zJc p'.isList fun h' he hit hk=>wpAny_pyIter_enum he ?_;have I3:Inv X pins Z H2 { s2 with heap:=h' }:=I2.kept (t':=s2.toks) hk;refine ⟨s2.heap.objs.size+1,[s2.heap.objs.size+1,s2.heap.objs.size],_,_,H2,rfl,I3,zQS 1 a (s2.heap.objs.size+1) s2.heap.objs.size,⟨⟨.none,by simpa using he⟩,hit,Nat.succ_ne_self _,Nat.ne_of_lt hal,Nat.ne_of_gt (Nat.lt_succ_of_lt hal)⟩,fun b hb=>?_,q⟩;have e' : b=s2.heap.objs.size+1\/b=s2.heap.objs.size:=by simpa using hb
   have hle:s2.heap.objs.size<=b:=by
     rcases e' with z | z
     . rw [z];exact Nat.le_add_right _ _
     . rw [z];exact Nat.le_refl _
   exact I2.zUh hle (I2.hok.fresh hle)
end L2
namespace PT
def isLet (b:Int):Bool:=(decide (65<=b) && decide (b<=90)) || (decide (97<=b) && decide (b<=122))
def jk (b:Int):Bool:=isLet b || decide (b∈([62,43,45,124,91,93]:List Int))
def zMI (b n k m:Int):Bool:=if b=93 then decide (0 < k) else if (!jk b || (decide (b=124) && decide (m % 2=1)))=true then false else decide ((if b=91 then 2 else 1)<=255 - n - k)
def zGn (b k:Int):Int:=if b=91 then k+1 else if b=93 then k - 1 else k
def zAE (m:Int):Int->Int->List Int->Nat
 | _,_,[]=>0
 | n,k,b :: r=>if zMI b n k m=true then zAE m (n+1) (zGn b k) r+1 else 0
theorem zLO (m:Int):∀ (l:List Int)(n k:Int),zAE m n k l<=l.length
 | [],_,_=>Nat.le_refl _
 | b :: r,n,k=>by
   unfold zAE;split
   . exact Nat.succ_le_succ (zLO m r _ _)
   . exact Nat.zero_le _
theorem zLP (m n k:Int):zAE m n k []=0:=rfl
theorem zCD (m n k b:Int)(r:List Int):zAE m n k (b :: r)=if zMI b n k m=true then zAE m (n+1) (zGn b k) r+1 else 0:=rfl
def zF2 (l:List Int):Bool:=decide (l.count 91=l.count 93)
def qU (m:Int)(l:List Int):Bool:=decide (zAE m 0 0 l=l.length) && zF2 l
theorem drop_cons {α:Type}:∀ {l:List α}{i:Nat}{c:α},l[i]? = some c->l.drop i=c :: l.drop (i+1)
 | [],_,_,h=>by simp at h
 | a :: l,0,c,h=>by simp at h;simp [h]
 | a :: l,i+1,c,h=>by have:=drop_cons (l:=l) (i:=i) (c:=c) (by simpa using h);simpa using this
end PT
namespace PT
open NLines (bytesOf)
def u8 (x:Int):UInt8:=UInt8.ofNat x.toNat
abbrev qS (x:Int):Prop:=0<=x/\x<=255
theorem zDr {x:Int}(h:qS x):(u8 x).toNat=x.toNat:=by
 unfold u8;have:x.toNat < 256:=by omega
 simp [UInt8.toNat_ofNat',Nat.mod_eq_of_lt this]
theorem u8_back {x:Int}(h:qS x):((u8 x).toNat:Int)=x:=by rw [zDr h];omega
theorem zKM {x y:Int}(hx:qS x)(hy:qS y)(e:u8 x=u8 y):x=y:=by have:=congrArg UInt8.toNat e;rw [zDr hx,zDr hy] at this;omega
theorem zHZ {x:Int}(h:qS x)(c:Int)(hc:qS c):(u8 x=u8 c)↔x=c:=⟨zKM h hc,fun e=>by rw [e]⟩
theorem zT4 {x:Int}(h:qS x):(u8 x=10)↔x=10:=zHZ h 10 (by decide)
theorem zQU {x:Int}(h:qS x):(u8 x=91)↔x=91:=zHZ h 91 (by decide)
theorem zQV {x:Int}(h:qS x):(u8 x=93)↔x=93:=zHZ h 93 (by decide)
theorem zXh {x:Int}(h:qS x):(u8 x=124)↔x=124:=zHZ h 124 (by decide)
theorem zYi {x:Int}(h:qS x):(u8 x=61)↔x=61:=zHZ h 61 (by decide)
theorem zXi:∀ n:Fin 256,isLet (n.val:Int)=Trail.isLetter (UInt8.ofNat n.val):=by decide +kernel
theorem zXj:∀ n:Fin 256,jk (n.val:Int)=Trail.isSign (UInt8.ofNat n.val):=by decide +kernel
theorem zR8 {x:Int}(h:qS x):Trail.isLetter (u8 x)=isLet x:=by
 have e:=zXi ⟨x.toNat,by omega⟩;have e2:((x.toNat:Nat):Int)=x:=by omega
 simp only [e2] at e;exact e.symm
theorem zPI {x:Int}(h:qS x):Trail.isSign (u8 x)=jk x:=by
 have e:=zXj ⟨x.toNat,by omega⟩;have e2:((x.toNat:Nat):Int)=x:=by omega
 simp only [e2] at e;exact e.symm
theorem zR9:jk 10=false:=by decide
theorem zU1:jk 93=true:=by decide
theorem zU2:jk 91=true:=by decide
theorem zSA:jk 124=true:=by decide
def depth:Int->List Int->Int
 | k,[]=>k
 | k,b :: r=>depth (zGn b k) r
theorem zIJ:∀ (l:List Int)(k:Int),depth k l=k+l.count 91 - l.count 93
 | [],k=>by simp [depth]
 | b :: r,k=>by
   unfold depth;rw [zIJ r,List.count_cons,List.count_cons];unfold zGn;by_cases h1:b=91
   . subst h1;simp;omega
   . by_cases h2:b=93
     . subst h2;simp;omega
     . simp [h1,h2]
theorem zHI (l:List Int):zF2 l=decide (depth 0 l=0):=by
 unfold zF2;rw [zIJ];by_cases h:l.count 91=l.count 93
 . simp [h]
 . have:¬ ((0:Int)+l.count 91 - l.count 93=0):=(by omega);rw [decide_eq_false h,decide_eq_false this]
theorem zSB {b:Int}{n d m:Nat}(hb:qS b)(hnd:n+d<=255)(h10:b≠10) : (Trail.isSign (u8 b)=false\/(u8 b=93/\d=0)\/(u8 b=124/\m % 2=1)\/Trail.ROW < n+1+(if u8 b=91 then d+1 else if u8 b=93 then d - 1 else d))↔zMI b n d m=false:=by
 simp only [zPI hb,zQV hb,zXh hb,zQU hb];unfold zMI Trail.ROW;by_cases h1:b=93
 . subst h1;simp [zU1];omega
 . by_cases h2:jk b=true
   . by_cases h3:b=124
     . subst h3;simp [zSA];omega
     . by_cases h4:b=91
       . subst h4;simp [zU2];omega
       . simp [h1,h2,h3,h4];omega
   . have h2' : jk b=false:=(by simpa using h2);simp [h1,h2']
theorem zMm {b:Int}{n d m:Nat}(h:zMI b n d m=true)(hnd:n+d<=255):∃ d' : Nat,zGn b d=d'/\n+1+d'<=255:=by
 unfold zMI at h;unfold zGn;by_cases h1:b=93
 . subst h1;simp at h;exact ⟨d - 1,by simp;omega,by omega⟩
 . rw [if_neg h1] at h;split at h
   . cases h
   . by_cases h4:b=91
     . subst h4;simp at h ⊢;exact ⟨d+1,by omega,by omega⟩
     . simp [h1,h4] at h ⊢;exact ⟨d,rfl,by omega⟩
theorem zSC (n d m:Int):zMI 10 n d m=false:=by unfold zMI;simp [zR9]
theorem zMn (m:Nat):∀ (l:List Int)(n d p:Nat),(∀ x∈l,qS x)->n+d<=255-> Trail.rowIn m n d p (l.map u8)=(match l[zAE m n d l]? with
     | some c=>if c=10/\depth d (l.take (zAE m n d l))=0 then .ok ((l.take (zAE m n d l)).map u8,p+zAE m n d l+1,(l.drop (zAE m n d l+1)).map u8) else .error (p+zAE m n d l)
     | none=>.error (p+zAE m n d l))
 | [],n,d,p,_,_=>by simp [Trail.rowIn,zLP]
 | b :: r,n,d,p,hl,hnd=>by
   have hb:qS b:=hl b (by simp);have hr:∀ x∈r,qS x:=fun x hx=>hl x (by simp [hx]);rw [List.map_cons,Trail.rowIn];by_cases h10:b=10
   . subst h10;rw [if_pos ((zT4 hb).mpr rfl),zCD,zSC];by_cases hd:d=0
     . subst hd;simp [depth]
     . rw [if_neg hd];have:¬ ((d:Int)=0):=by omega
       simp [depth,hd]
   . rw [if_neg (fun e=>h10 ((zT4 hb).mp e)),zCD];have key:=zSB (m:=m) hb hnd h10;cases hm:zMI b n d m with
     | false =>rw [if_pos (key.mpr hm)];simp [h10]
     | true =>
       rw [if_neg (fun e=>by rw [key.mp e] at hm;cases hm)];obtain ⟨d',hd',hle⟩:=zMm hm hnd;have ed:(if u8 b=91 then d+1 else if u8 b=93 then d - 1 else d)=d':=by
         simp only [zQU hb,zQV hb];unfold zGn at hd';unfold zMI at hm;by_cases h4:b=91
         . simp [h4] at hd' ⊢;omega
         . by_cases h1:b=93
           . simp [h1] at hd' hm ⊢;omega
           . simp [h1,h4] at hd' ⊢;omega
       rw [ed,zMn m r (n+1) d' (p+1) hr (by omega)];have en:((n:Int)+1)=((n+1:Nat):Int):=by omega
       simp only [if_true,hd',en,List.getElem?_cons_succ,List.take_succ_cons,List.drop_succ_cons];cases hq:r[zAE m ((n+1:Nat):Int) d' r]? with
       | none=>simp;omega
       | some c =>
         simp only;have eq:depth d (b :: r.take (zAE m ((n+1:Nat):Int) d' r))=depth d' (r.take (zAE m ((n+1:Nat):Int) d' r)):=by show depth (zGn b d) _=_;rw [hd']
         rw [eq];have e5:p+1+zAE m ((n+1:Nat):Int) d' r=p+(zAE m ((n+1:Nat):Int) d' r+1):=by omega
         by_cases hc:c=10/\depth d' (r.take (zAE m ((n+1:Nat):Int) d' r))=0
         . rw [if_pos hc,if_pos hc];simp only [List.map_cons,e5]
         . rw [if_neg hc,if_neg hc];simp only [e5]
end PT
namespace PT
theorem zCE:∀ (l:List Int)(d:Nat),(∀ x∈l,qS x)->Trail.paired d (l.map u8)=true->d<=l.length
 | [],d,_,h=>by simp [Trail.paired] at h;simp [h]
 | b :: r,d,hl,h=>by
   have hb:qS b:=hl b (by simp);have hr:∀ x∈r,qS x:=fun x hx=>hl x (by simp [hx]);simp only [List.map_cons,Trail.paired,zQU hb,zQV hb] at h;rw [List.length_cons];by_cases h1:b=91
   . simp [h1] at h;have:=zCE r (d+1) hr h;omega
   . by_cases h2:b=93
     . simp [h2] at h;have:=zCE r (d - 1) hr h.2;omega
     . simp [h1,h2] at h;have:=zCE r d hr h;omega
theorem zSD (m:Nat):∀ (l:List Int)(n d:Nat),(∀ x∈l,qS x)->n+d<=255-> ((zAE m n d l=l.length/\depth d l=0)↔(l.all jk=true/\Trail.paired d (l.map u8)=true/\n+l.length<=255/\(124∈l->m % 2=0)))
 | [],n,d,_,hnd=>by simp [zLP,depth,Trail.paired];omega
 | b :: r,n,d,hl,hnd=>by
   have hb:qS b:=hl b (by simp);have hr:∀ x∈r,qS x:=fun x hx=>hl x (by simp [hx]);rw [zCD];have en:((n:Int)+1)=((n+1:Nat):Int):=by omega
   have pd:Trail.paired d ((b :: r).map u8)=if b=91 then Trail.paired (d+1) (r.map u8) else if b=93 then (decide (0 < d) && Trail.paired (d - 1) (r.map u8)) else Trail.paired d (r.map u8):=by simp only [List.map_cons,Trail.paired,zQU hb,zQV hb]
   rw [pd];show _/\depth (zGn b d) r=0↔_;by_cases hm:zMI b n d m=true
   . obtain ⟨d',hd',hle⟩:=zMm hm hnd;have ih:=zSD m r (n+1) d' hr (by omega);rw [if_pos hm,hd',en];have e1:(zAE m ((n+1:Nat):Int) d' r+1=(b :: r).length/\depth d' r=0)↔(zAE m ((n+1:Nat):Int) d' r=r.length/\depth d' r=0):=by rw [List.length_cons];omega
     rw [e1,ih];unfold zGn at hd';unfold zMI at hm;have el:(b :: r).length=r.length+1:=rfl;rw [el,List.all_cons];by_cases h1:b=91
     . subst h1;have:d' = d+1:=by simp at hd';omega
       subst this;simp [zU2];omega
     . by_cases h2:b=93
       . subst h2;simp at hd' hm;have:d' = d - 1:=by omega
         subst this;simp [zU1,hm];omega
       . have:d' = d:=by simp [h1,h2] at hd';omega
         subst this;by_cases h3:b=124
         . subst h3;simp [zSA] at hm ⊢;omega
         . have h3' : ¬ 124=b:=fun z=>h3 z.symm;have hs:jk b=true:=by
             cases q:jk b with
             | true=>rfl
             | false=>simp [h2,q] at hm
           simp [h1,h2,h3',hs];omega
   . rw [if_neg hm];constructor
     . intro h;simp at h
     . rintro ⟨a1,a2,a3,a4⟩;exfalso;apply hm;rw [List.all_cons,Bool.and_eq_true] at a1;rw [List.length_cons] at a3;unfold zMI;by_cases h2:b=93
       . subst h2;simp at a2 ⊢;exact a2.1
       . rw [if_neg h2];have h124:(decide (b=124) && decide ((m:Int) % 2=1))=false:=by
           by_cases h3:b=124
           . have:=a4 (by simp [h3]);have:¬ ((m:Int) % 2=1):=by omega
             simp [this]
           . simp [h3]
         rw [a1.1,h124];simp;by_cases h1:b=91
         . subst h1;simp at a2 ⊢;have:=zCE r (d+1) hr a2;omega
         . simp [h1,h2] at a2 ⊢;have:=zCE r d hr a2;omega
theorem zSE {c:Int}(hc:qS c):∀ (l:List Int),(∀ x∈l,qS x)->(u8 c∈l.map u8↔c∈l)
 | [],_=>by simp
 | b :: r,hl=>by have hb:qS b:=hl b (by simp);have ih:=zSE hc r (fun x hx=>hl x (by simp [hx]));rw [List.map_cons,List.mem_cons,List.mem_cons,ih,zHZ hc b hb]
theorem zNv:∀ (l:List Int),(∀ x∈l,qS x)->(l.map u8).all Trail.isSign=l.all jk
 | [],_=>rfl
 | b :: r,hl=>by rw [List.map_cons,List.all_cons,List.all_cons,zPI (hl b (by simp)),zNv r (fun x hx=>hl x (by simp [hx]))]
theorem zAk (m:Nat)(l:List Int)(hl:∀ x∈l,qS x):qU m l=Trail.isRow m (l.map u8):=by
 have key:=zSD m l 0 0 hl (by omega);have hc:(l.map u8).contains 124=decide (124∈l):=by
   have:=zSE (c:=124) (by decide) l hl;by_cases h:(124:Int)∈l
   . rw [decide_eq_true h];exact List.contains_iff_mem.mpr (this.mpr h)
   . rw [decide_eq_false h];cases q:(l.map u8).contains 124 with
     | false=>rfl
     | true=>exact absurd (this.mp (List.contains_iff_mem.mp q)) h
 unfold qU Trail.isRow Trail.ROW;rw [zHI,zNv l hl,hc,List.length_map];have z:((0:Nat):Int)=0:=rfl;rw [z] at key;rw [Bool.eq_iff_iff];simp only [Bool.and_eq_true,decide_eq_true_eq,Bool.or_eq_true,Bool.not_eq_true',decide_eq_false_iff_not];rw [key];constructor
 . rintro ⟨a,b,c,d⟩;refine ⟨a,b,by omega,?_⟩;by_cases h:(124:Int)∈l
   . exact .inr (d h)
   . exact .inl h
 . rintro ⟨a,b,c,d⟩;refine ⟨a,b,by omega,fun h=>?_⟩;rcases d with d | d
   . exact absurd h d
   . exact d
def zLQ (m:Int)(ts:List Int)(b:Nat):Except Nat (List Int) :=
 if b+zAE m 0 0 (ts.drop b)=ts.length\/ts[b+zAE m 0 0 (ts.drop b)]?≠some 10\/zF2 ((ts.drop b).take (zAE m 0 0 (ts.drop b)))=false then .error (b+zAE m 0 0 (ts.drop b)) else .ok ((ts.drop b).take (zAE m 0 0 (ts.drop b)))
theorem zKN (m:Nat)(ts:List Int)(b:Nat)(hb:b<=ts.length)(hl:∀ x∈ts,qS x) : Trail.rowIn m 0 0 b ((ts.drop b).map u8)=(match zLQ m ts b with
     | .error e=>.error e
     | .ok row=>.ok (row.map u8,b+row.length+1,(ts.drop (b+row.length+1)).map u8)):=by
 rw [zMn m (ts.drop b) 0 0 b (fun x hx=>hl x (List.mem_of_mem_drop hx)) (by omega)];have z:((0:Nat):Int)=0:=rfl;simp only [z];have hle:=zLO m (ts.drop b) 0 0;rw [List.length_drop] at hle;have ge:(ts.drop b)[zAE m 0 0 (ts.drop b)]? = ts[b+zAE m 0 0 (ts.drop b)]?:=by rw [List.getElem?_drop]
 unfold zLQ;rw [ge,zHI];generalize zAE m 0 0 (ts.drop b)=r at *;cases hq:ts[b+r]? with
 | none=>simp
 | some c =>
   have lt:b+r < ts.length:=(List.getElem?_eq_some_iff.mp hq).1;have ln:((ts.drop b).take r).length=r:=by rw [List.length_take,List.length_drop];omega
   by_cases hc:c=10
   . subst hc;by_cases hd:depth 0 ((ts.drop b).take r)=0
     . have:¬ (b+r=ts.length):=(by omega);simp only [hd,this,ne_eq,not_true,and_self,if_true,decide_true,Bool.true_eq_false,or_self,if_false,ln,List.drop_drop];congr 4
     . simp [hd]
   . have:¬ (some c=some (10:Int)):=(by simp [hc]);simp [hc]
theorem zPJ (m:Int):∀ (l:List Int)(n k:Int),zAE m n k (l.take (zAE m n k l))=zAE m n k l
 | [],_,_=>rfl
 | b :: r,n,k=>by
   rw [zCD];by_cases h:zMI b n k m=true
   . rw [if_pos h,List.take_succ_cons,zCD,if_pos h,zPJ m r]
   . rw [if_neg h];rfl
theorem zMo {m:Int}{ts row:List Int}{b:Nat}(h:zLQ m ts b=.ok row):row=(ts.drop b).take row.length/\ts[b+row.length]? = some 10/\b+row.length < ts.length/\(qU m row=true):=by
 unfold zLQ at h;split at h
 . cases h
 . rename_i hn;have hle:=zLO m (ts.drop b) 0 0;rw [List.length_drop] at hle;have e:=Except.ok.inj h;simp only [not_or,Decidable.not_not,Bool.not_eq_false] at hn;have lt:b+zAE m 0 0 (ts.drop b) < ts.length:=(List.getElem?_eq_some_iff.mp hn.2.1).1;have ln:row.length=zAE m 0 0 (ts.drop b):=by rw [<- e,List.length_take,List.length_drop];omega
   refine ⟨by rw [ln];exact e.symm,by rw [ln];exact hn.2.1,by rw [ln];exact lt,?_⟩;unfold qU;rw [<- e,zPJ,hn.2.2,e,ln];simp
def zBL:List Int->List Int->Nat
 | a :: l,b :: r=>if a=b then zBL l r+1 else 0
 | _,_=>0
def zc (t:Int):List Int:=if t=10 then [49,48,10] else if t=12 then [49,50,10] else [48+t,10]
def zBk (ts:List Int):List Int->Nat->Except Nat Int
 | [],far=>.error far
 | t :: r,far=>if zBL ts (zc t)=(zc t).length then .ok t else zBk ts r (max far (zBL ts (zc t)))
def jW:List Int:=[3,4,5,6,8,10,12]
theorem zCF (l:List Int):zBL [] l=0:=by cases l <;> rfl
theorem zEp (l:List Int):zBL l []=0:=by cases l <;> rfl
theorem zAe (a b:Int)(l r:List Int):zBL (a :: l) (b :: r)=if a=b then zBL l r+1 else 0:=rfl
theorem zMp (ts:List Int)(hl:∀ x∈ts,qS x):Trail.roundIn (ts.map u8)=(match zBk ts jW 0 with
   | .error e=>.error e
   | .ok t=>.ok (t.toNat,(zc t).length,(ts.drop (zc t).length).map u8)):=by
 have L3:zc 3=[51,10]:=rfl;have L4:zc 4=[52,10]:=rfl;have L5:zc 5=[53,10]:=rfl;have L6:zc 6=[54,10]:=rfl;have L8:zc 8=[56,10]:=rfl;have L10:zc 10=[49,48,10]:=rfl;have L12:zc 12=[49,50,10]:=rfl;unfold jW;simp only [zBk,L3,L4,L5,L6,L8,L10,L12];cases ts with
 | nil=>simp [Trail.roundIn,zCF]
 | cons c s =>
   have hc:qS c:=hl c (by simp);simp only [List.map_cons,Trail.roundIn,zAe];have e49:(u8 c=49)↔c=49:=zHZ hc 49 (by decide);have econt:([51,52,53,54,56]:List UInt8).contains (u8 c)=decide (c∈([51,52,53,54,56]:List Int)):=by
     have:=zSE hc [51,52,53,54,56] (by decide);have q:([51,52,53,54,56]:List Int).map u8=([51,52,53,54,56]:List UInt8):=by decide
     rw [q] at this;by_cases h:c∈([51,52,53,54,56]:List Int)
     . rw [decide_eq_true h];exact List.contains_iff_mem.mpr (this.mpr h)
     . rw [decide_eq_false h];cases z:([51,52,53,54,56]:List UInt8).contains (u8 c) with
       | false=>rfl
       | true=>exact absurd (this.mp (List.contains_iff_mem.mp z)) h
   simp only [e49,econt];have tail:∀ (t p:Nat)(f:List UInt8->Nat×Nat×List UInt8),(match s.map u8 with | 10 :: q=>(Except.ok (f q):Except Nat (Nat×Nat×List UInt8)) | _=>.error p)=if s.head? = some 10 then .ok (f ((s.drop 1).map u8)) else .error p:=by
     intro t p f;cases s with
     | nil=>simp
     | cons e r =>
       have he:qS e:=hl e (by simp);by_cases h:e=10
       . subst h;have:u8 10=10:=by decide
         simp [this]
       . have:u8 e≠10:=fun z=>h ((zT4 he).mp z);simp only [List.map_cons,List.head?_cons,Option.some.injEq,h,if_false];split
         . rename_i q heq;injection heq with h1 h2;exact absurd h1 this
         . rfl
   have s10:zBL s [10]=if s.head? = some 10 then 1 else 0:=by
     cases s with
     | nil=>simp [zCF]
     | cons e r=>simp [zAe,zEp]
   by_cases h49:c=49
   . subst h49;simp;cases s with
     | nil=>simp [zCF]
     | cons e r =>
       have he:qS e:=hl e (by simp);have e48:(u8 e=48)↔e=48:=zHZ he 48 (by decide);have e50:(u8 e=50)↔e=50:=zHZ he 50 (by decide);have r10:zBL r [10]=if r.head? = some 10 then 1 else 0:=by
         cases r with
         | nil=>simp [zCF]
         | cons e' r'=>simp [zAe,zEp]
       have tail2:∀ (p:Nat)(f:List UInt8->Nat×Nat×List UInt8),(match r.map u8 with | 10 :: q=>(Except.ok (f q):Except Nat (Nat×Nat×List UInt8)) | _=>.error p)=if r.head? = some 10 then .ok (f ((r.drop 1).map u8)) else .error p:=by
         intro p f;cases r with
         | nil=>simp
         | cons e' r' =>
           have he' : qS e':=hl e' (by simp);by_cases h:e' = 10
           . subst h;have:u8 10=10:=by decide
             simp [this]
           . have:u8 e'≠10:=fun z=>h ((zT4 he').mp z);simp only [List.map_cons,List.head?_cons,Option.some.injEq,h,if_false];split
             . rename_i q heq;injection heq with h1 h2;exact absurd h1 this
             . rfl
       simp only [List.map_cons,zAe,r10,e48,e50];by_cases h1:e=48
       . subst h1;simp;refine Eq.trans (tail2 2 (fun q=>(10,3,q))) ?_;by_cases hh:r.head? = some 10 <;> simp [hh,L10]
       . by_cases h2:e=50
         . subst h2;simp;refine Eq.trans (tail2 2 (fun q=>(12,3,q))) ?_;by_cases hh:r.head? = some 10 <;> simp [hh,L12]
         . simp [h1,h2]
   . simp only [h49,if_false];by_cases hin:c∈([51,52,53,54,56]:List Int)
     . simp only [hin,decide_true,if_true];refine Eq.trans (tail 0 1 (fun q=>((u8 c).toNat - 48,2,q))) ?_;have hn:(u8 c).toNat=c.toNat:=zDr hc;simp at hin;rcases hin with rfl | rfl | rfl | rfl | rfl <;> by_cases hh:s.head? = some 10 <;> simp [hh,s10,hn,L3,L4,L5,L6,L8]
     . simp at hin;simp [hin,h49]
def need (last:Nat):Nat:=if last < 65 then 59 else 123 - last
def conv (acc:RL):List (UInt8×List UInt8):=acc.map fun x=>(u8 x.1,x.2.map u8)
def zNw (ts:List Int)(p:Nat)(last c:Int):Except Nat Int:=if isLet c=false\/c<=last then .error p else if p+1=ts.length\/ts[p+1]?≠some 61 then .error (p+1) else .ok c
theorem zCe {c:Int}(h:isLet c=true):65<=c/\c<=122:=by unfold isLet at h;simp at h;omega
theorem zSF (m f last p:Nat):Trail.rulesIn m (f+1) last p []=.ok []:=rfl
theorem zQW (m f last p:Nat)(ts:List Int)(c:Int)(hc:ts[p]? = some c)(hl:∀ x∈ts,qS x) : Trail.rulesIn m (f+1) last p ((ts.drop p).map u8)=(match zNw ts p last c with
     | .error e=>.error e
     | .ok _=>match zLQ m ts (p+2) with
       | .error e=>.error e
       | .ok row=>match Trail.rulesIn m f c.toNat (p+row.length+3) ((ts.drop (p+row.length+3)).map u8) with
         | .error e=>.error e
         | .ok l=>.ok ((u8 c,row.map u8) :: l)):=by
 have lt:p < ts.length:=(List.getElem?_eq_some_iff.mp hc).1;have hb:qS c:=hl c (List.mem_of_getElem? hc);have hd:ts.drop p=c :: ts.drop (p+1):=by rw [List.drop_eq_getElem_cons lt];congr 1;exact (List.getElem?_eq_some_iff.mp hc).2
 rw [hd,List.map_cons,Trail.rulesIn.eq_def];simp only [zR8 hb,zDr hb];unfold zNw;have hcl:(c.toNat<=last)↔(c<=(last:Int)):=by omega
 by_cases h1:isLet c=false\/c<=(last:Int)
 . have h1' : isLet c=false\/c.toNat<=last:=h1.imp id hcl.mpr;rw [if_pos h1,if_pos h1']
 . have h1' : ¬ (isLet c=false\/c.toNat<=last):=fun z=>h1 (z.imp id hcl.mp);rw [if_neg h1,if_neg h1'];by_cases h2:p+1=ts.length
   . have:ts.drop (p+1)=[]:=List.drop_eq_nil_of_le (by omega);rw [this,if_pos (.inl h2)];rfl
   . obtain ⟨c2,hc2⟩ : ∃ c2,ts[p+1]? = some c2:=⟨_,List.getElem?_eq_getElem (by omega)⟩;have lt2:p+1 < ts.length:=by omega
     have hb2:qS c2:=hl c2 (List.mem_of_getElem? hc2);have hd2:ts.drop (p+1)=c2 :: ts.drop (p+2):=by rw [List.drop_eq_getElem_cons lt2];congr 1;exact (List.getElem?_eq_some_iff.mp hc2).2
     rw [hd2,List.map_cons,hc2];by_cases h3:c2=61
     . subst h3;have e61:u8 61=61:=by decide
       rw [if_neg (by simp [h2])];simp only [e61,ne_eq,not_true,if_false];rw [zKN m ts (p+2) (by omega) hl];cases zLQ m ts (p+2) with
       | error e=>rfl
       | ok row =>
         simp only;have e5:p+2+row.length+1=p+row.length+3:=by omega
         rw [e5];rfl
     . have n61:u8 c2≠61:=fun z=>h3 ((zYi hb2).mp z);rw [if_pos (.inr (by simp [h3]))];simp only [ne_eq,n61,not_false_eq_true,if_true]
theorem zSG {last f:Nat}{c:Int}(h:need last<=f+1)(hc:isLet c=true)(hl:(last:Int) < c):need c.toNat<=f/\1<=f:=by obtain ⟨h1,h2⟩:=zCe hc;unfold need at h ⊢;rw [if_neg (by omega)];split at h <;> omega
def look (rl:RL)(c:Int):Option (List Int):=(rl.find? fun x=>decide (x.1=c)).map (·.2)
def zLR (rl:RL)(l:List Int):List Int:=l.flatMap fun c=>(look rl c).getD [c]
def zg (rl:RL)(row:List Int):Nat->List Int
 | 0=>row
 | g+1=>zLR rl (zg rl row g)
def zSH (l:List (Int×Int))(c:Int):Option Int:=(l.find? fun x=>decide (x.1=c)).map (·.2)
def cnt (l:List (Int×Int))(c:Int):Int:=(zSH l c).getD 0
def zFD (l:List (Int×Int))(c v:Int):List (Int×Int):=if (l.any fun x=>decide (x.1=c))=true then l.map (fun x=>if x.1=c then (x.1,v) else x) else l ++ [(c,v)]
def QD (row:List Int):List (Int×Int):=row.foldl (fun l c=>zFD l c (cnt l c+1)) []
def zJV (acc t:List (Int×Int))(n:Int):List (Int×Int):=t.foldl (fun a x=>zFD a x.1 (cnt a x.1+x.2 * n)) acc
def zCG (bl:List (Int×List (Int×Int)))(c:Int):Option (List (Int×Int)):=(bl.find? fun x=>decide (x.1=c)).map (·.2)
def stepT (bl:List (Int×List (Int×Int)))(acc:List (Int×Int))(x:Int×Int):List (Int×Int):=match zCG bl x.1 with
 | some t=>zJV acc t x.2
 | none=>zFD acc x.1 (cnt acc x.1+x.2)
def zZD (bl:List (Int×List (Int×Int)))(l:List (Int×Int)):List (Int×Int):=l.foldl (stepT bl) []
def zCf (rl:RL):List (Int×List (Int×Int)):=rl.map fun x=>(x.1,QD x.2)
def zCH (rl:RL)(row:List Int):Nat->List (Int×Int)
 | 0=>QD row
 | g+1=>zZD (zCf rl) (zCH rl row g)
abbrev ND (l:List (Int×Int)):Prop:=(l.map (·.1)).Nodup
theorem cnt_nil (c:Int):cnt [] c=0:=rfl
theorem cnt_cons (x:Int×Int)(l:List (Int×Int))(c:Int):cnt (x :: l) c=if x.1=c then x.2 else cnt l c:=by unfold cnt zSH;rw [List.find?_cons];by_cases h:x.1=c <;> simp [h]
theorem zSI {l:List (Int×Int)}{c:Int}(h:c∉l.map (·.1)):cnt l c=0:=by
 induction l with
 | nil=>rfl
 | cons x l ih =>rw [List.map_cons,List.mem_cons,not_or] at h;rw [cnt_cons,if_neg (fun z=>h.1 z.symm),ih h.2]
theorem zMq (l:List (Int×Int))(c v:Int):(zFD l c v).map (·.1)=if c∈l.map (·.1) then l.map (·.1) else l.map (·.1) ++ [c]:=by
 unfold zFD;have e:((l.any fun x=>decide (x.1=c))=true)↔c∈l.map (·.1):=by
   rw [List.any_eq_true,List.mem_map];constructor
   . rintro ⟨x,hx,h⟩;exact ⟨x,hx,of_decide_eq_true h⟩
   . rintro ⟨x,hx,h⟩;exact ⟨x,hx,decide_eq_true h⟩
 by_cases h:c∈l.map (·.1)
 . rw [if_pos (e.mpr h),if_pos h,List.map_map];apply List.map_congr_left;intro x _;show (if x.1=c then (x.1,v) else x).1=x.1;split <;> rfl
 . rw [if_neg (fun z=>h (e.mp z)),if_neg h,List.map_append];rfl
theorem zIK {l:List (Int×Int)}{c v:Int}(h:ND l):ND (zFD l c v):=by
 unfold ND;rw [zMq];split
 . exact h
 . rename_i hc;rw [List.nodup_append];exact ⟨h,by simp,fun a ha b hb=>by simp at hb;subst hb;exact fun z=>hc (z ▸ ha)⟩
theorem zVw (l:List (Int×Int))(c v:Int)(k:Int)(h:c∈l.map (·.1)):cnt (l.map (fun x=>if x.1=c then (x.1,v) else x)) k=if k=c then v else cnt l k:=by
 induction l with
 | nil=>simp at h
 | cons x l ih =>
   rw [List.map_cons,cnt_cons,cnt_cons];by_cases hx:x.1=c
   . rw [if_pos hx];simp only;by_cases hk:k=c
     . subst hk;simp [hx]
     . rw [if_neg (by rw [hx];exact fun z=>hk z.symm),if_neg hk,if_neg (by rw [hx];exact fun z=>hk z.symm)];by_cases hm:c∈l.map (·.1)
       . rw [ih hm,if_neg hk]
       . have:l.map (fun x=>if x.1=c then (x.1,v) else x)=l:=by
           conv=>rhs;rw [<- List.map_id l]
           apply List.map_congr_left;intro y hy;rw [if_neg (fun z=>hm (List.mem_map.mpr ⟨y,hy,z⟩))];rfl
         rw [this]
   . rw [if_neg hx];rw [List.map_cons,List.mem_cons] at h;have hm:c∈l.map (·.1):=h.resolve_left fun z=>hx z.symm;by_cases hxk:x.1=k
     . rw [if_pos hxk,if_pos hxk,if_neg (fun z=>hx (hxk.trans z))]
     . rw [if_neg hxk,if_neg hxk,ih hm]
theorem zVx (l:List (Int×Int))(c v k:Int)(h:c∉l.map (·.1)):cnt (l ++ [(c,v)]) k=if k=c then v else cnt l k:=by
 induction l with
 | nil =>
   rw [List.nil_append,cnt_cons];by_cases hk:k=c
   . subst hk;simp
   . rw [if_neg (fun z=>hk z.symm),if_neg hk]
 | cons x l ih =>
   rw [List.map_cons,List.mem_cons,not_or] at h;rw [List.cons_append,cnt_cons,cnt_cons,ih h.2];by_cases hxk:x.1=k
   . rw [if_pos hxk,if_pos hxk,if_neg (fun z=>h.1 (z.symm.trans hxk.symm))]
   . rw [if_neg hxk,if_neg hxk]
theorem zNx (l:List (Int×Int))(c v k:Int):cnt (zFD l c v) k=if k=c then v else cnt l k:=by
 unfold zFD;have e:((l.any fun x=>decide (x.1=c))=true)↔c∈l.map (·.1):=by
   rw [List.any_eq_true,List.mem_map];constructor
   . rintro ⟨x,hx,h⟩;exact ⟨x,hx,of_decide_eq_true h⟩
   . rintro ⟨x,hx,h⟩;exact ⟨x,hx,decide_eq_true h⟩
 by_cases h:c∈l.map (·.1)
 . rw [if_pos (e.mpr h)];exact zVw l c v k h
 . rw [if_neg (fun z=>h (e.mp z))];exact zVx l c v k h
def total (l:List (Int×Int)):Int:=(l.map (·.2)).sum
theorem zEq (x:Int×Int)(l:List (Int×Int)):total (x :: l)=x.2+total l:=by unfold total;rw [List.map_cons,List.sum_cons]
theorem zIL:∀ (l:List (Int×Int)) (c v:Int),ND l->total (zFD l c v)=total l - cnt l c+v:=by
 intro l c v hn;unfold zFD;by_cases h:c∈l.map (·.1)
 . have e:(l.any fun x=>decide (x.1=c))=true:=by
     obtain ⟨x,hx,hc⟩:=List.mem_map.mp h;exact List.any_eq_true.mpr ⟨x,hx,decide_eq_true hc⟩
   rw [if_pos e];clear e
   induction l with
   | nil=>simp at h
   | cons x l ih =>
     have hn' : x.1∉l.map (·.1)/\ND l:=List.nodup_cons.mp hn;rw [List.map_cons,zEq,zEq,cnt_cons];by_cases hx:x.1=c
     . rw [if_pos hx,if_pos hx];have:l.map (fun x=>if x.1=c then (x.1,v) else x)=l:=by
         conv=>rhs;rw [<- List.map_id l]
         apply List.map_congr_left;intro y hy;rw [if_neg (fun z=>hn'.1 (List.mem_map.mpr ⟨y,hy,z.trans hx.symm⟩))];rfl
       rw [this];show v+_=_;omega
     . rw [if_neg hx,if_neg hx];rw [List.map_cons,List.mem_cons] at h;rw [ih hn'.2 (h.resolve_left fun z=>hx z.symm)];omega
 . have e:¬ (l.any fun x=>decide (x.1=c))=true:=fun z=>by
     obtain ⟨x,hx,hc⟩:=List.any_eq_true.mp z;exact h (List.mem_map.mpr ⟨x,hx,of_decide_eq_true hc⟩)
   rw [if_neg e,zSI h];unfold total;rw [List.map_append];simp
theorem zEr:∀ (row:List Int) (l:List (Int×Int)),ND l->(∀ x∈l,0 < x.2)-> ND (row.foldl (fun l c=>zFD l c (cnt l c+1)) l)/\(∀ k,cnt (row.foldl (fun l c=>zFD l c (cnt l c+1)) l) k=cnt l k+row.count k)/\total (row.foldl (fun l c=>zFD l c (cnt l c+1)) l)=total l+row.length
 | [],l,h,_=>⟨h,fun k=>by simp,by simp⟩
 | c :: r,l,h,hp=>by
   have pos:∀ x∈zFD l c (cnt l c+1),0 < x.2:=by
     have hc:0<=cnt l c:=by
       unfold cnt zSH;cases q:l.find? fun x=>decide (x.1=c) with
       | none=>simp
       | some x=>simp;exact Int.le_of_lt (hp x (List.mem_of_find?_eq_some q))
     intro x hx;unfold zFD at hx;split at hx
     . obtain ⟨y,hy,rfl⟩:=List.mem_map.mp hx;by_cases hyc:y.1=c
       . rw [if_pos hyc];show 0 < cnt l c+1;omega
       . rw [if_neg hyc];exact hp y hy
     . rcases List.mem_append.mp hx with h1 | h1
       . exact hp x h1
       . simp at h1;subst h1;show 0 < cnt l c+1;omega
   obtain ⟨i1,i2,i3⟩:=zEr r (zFD l c (cnt l c+1)) (zIK h) pos;rw [List.foldl_cons];refine ⟨i1,fun k=>?_,?_⟩
   . rw [i2,zNx,List.count_cons];by_cases hk:k=c
     . subst hk;simp;omega
     . rw [if_neg hk];have:(c == k)=false:=by simp;exact fun z=>hk z.symm
       simp [this]
   . rw [i3,zIL _ _ _ h,List.length_cons];omega
theorem zIM (row:List Int):ND (QD row):=(zEr row [] (by simp [ND]) (by simp)).1
theorem zGo (row:List Int)(k:Int):cnt (QD row) k=row.count k:=by have:=(zEr row [] (by simp [ND]) (by simp)).2.1 k;rw [cnt_nil] at this;unfold QD;omega
theorem zHJ (row:List Int):total (QD row)=row.length:=by have:=(zEr row [] (by simp [ND]) (by simp)).2.2;unfold QD;rw [this];simp [total]
theorem sum_filter (f:Int->Int)(c:Int):∀ L:List Int,(L.map f).sum=(L.count c:Int) * f c+((L.filter fun x=>decide (x≠c)).map f).sum
 | []=>by simp
 | x :: L=>by
   rw [List.map_cons,List.sum_cons,sum_filter f c L,List.count_cons];by_cases h:x=c
   . subst h;simp;rw [Int.add_mul];omega
   . have h2:(x == c)=false:=(by simp [h]);simp [h,h2];omega
theorem zLS (c k:Int)(L:List Int):(L.filter fun x=>decide (x≠c)).count k=if k=c then 0 else L.count k:=by
 induction L with
 | nil=>simp
 | cons x L ih =>
   rw [List.filter_cons];by_cases h:x=c
   . subst h;simp only [ne_eq,not_true,decide_false,Bool.false_eq_true,if_false];rw [ih,List.count_cons];by_cases hk:k=x
     . simp [hk]
     . have:(x == k)=false:=by simp;exact fun z=>hk z.symm
       simp [hk,this]
   . simp only [ne_eq,h,not_false_eq_true,decide_true,if_true];rw [List.count_cons,ih,List.count_cons];by_cases hk:k=c
     . subst hk;have:(x == k)=false:=by simp [h]
       simp [this]
     . simp [hk]
theorem wsum (f:Int->Int):∀ (l:List (Int×Int)) (L:List Int),ND l->(∀ c,cnt l c=L.count c)->(L.map f).sum=(l.map fun x=>x.2 * f x.1).sum
 | [],L,_,h=>by
   have:L=[]:=by
     cases L with
     | nil=>rfl
     | cons x L =>have:=h x;rw [cnt_nil,List.count_cons] at this;simp at this;omega
   subst this;rfl
 | x :: l,L,hn,h=>by
   have hn' : x.1∉l.map (·.1)/\ND l:=List.nodup_cons.mp hn;have ih:=wsum f l (L.filter fun y=>decide (y≠x.1)) hn'.2 (fun c=>by
     rw [zLS];by_cases hc:c=x.1
     . rw [if_pos hc,hc,zSI hn'.1];rfl
     . rw [if_neg hc,<- h c,cnt_cons,if_neg (fun z=>hc z.symm)])
   rw [sum_filter f x.1 L,ih,List.map_cons,List.sum_cons];have:=h x.1;rw [cnt_cons,if_pos rfl] at this;rw [this]
theorem zSJ:∀ (t acc:List (Int×Int)) (n:Int),ND acc->ND (zJV acc t n)
 | [],acc,n,h=>h
 | x :: t,acc,n,h=>zSJ t (zFD acc x.1 (cnt acc x.1+x.2 * n)) n (zIK h)
theorem zPK:∀ (t acc:List (Int×Int)) (n k:Int),ND t->cnt (zJV acc t n) k=cnt acc k+cnt t k * n
 | [],acc,n,k,_=>by rw [cnt_nil];show cnt acc k=_;omega
 | x :: t,acc,n,k,h=>by
   have hn' : x.1∉t.map (·.1)/\ND t:=List.nodup_cons.mp h;show cnt (zJV (zFD acc x.1 (cnt acc x.1+x.2 * n)) t n) k=_;rw [zPK t _ n k hn'.2,zNx,cnt_cons];by_cases hk:k=x.1
   . subst hk;rw [if_pos rfl,if_pos rfl,zSI hn'.1];omega
   . rw [if_neg hk,if_neg (fun z=>hk z.symm)]
theorem zKO:∀ (t acc:List (Int×Int)) (n:Int),ND acc->total (zJV acc t n)=total acc+total t * n
 | [],acc,n,_=>by show total acc=_;simp [total]
 | x :: t,acc,n,h=>by show total (zJV (zFD acc x.1 (cnt acc x.1+x.2 * n)) t n)=_;rw [zKO t _ n (zIK h),zIL _ _ _ h,zEq,Int.add_mul];omega
def wOf (bl:List (Int×List (Int×Int)))(c k:Int):Int:=match zCG bl c with
 | some t=>cnt t k
 | none=>if k=c then 1 else 0
def lOf (bl:List (Int×List (Int×Int)))(c:Int):Int:=match zCG bl c with
 | some t=>total t
 | none=>1
theorem zPL (bl:List (Int×List (Int×Int)))(hb:∀ c t,zCG bl c=some t->ND t):∀ (l acc:List (Int×Int)),ND acc-> ND (l.foldl (stepT bl) acc)/\(∀ k,cnt (l.foldl (stepT bl) acc) k=cnt acc k+(l.map fun x=>x.2 * wOf bl x.1 k).sum)/\total (l.foldl (stepT bl) acc)=total acc+(l.map fun x=>x.2 * lOf bl x.1).sum
 | [],acc,h=>⟨h,fun k=>by simp,by simp⟩
 | x :: l,acc,h=>by
   rw [List.foldl_cons];have st:ND (stepT bl acc x)/\(∀ k,cnt (stepT bl acc x) k=cnt acc k+x.2 * wOf bl x.1 k)/\total (stepT bl acc x)=total acc+x.2 * lOf bl x.1:=by
     unfold stepT wOf lOf;cases q:zCG bl x.1 with
     | some t =>simp only;exact ⟨zSJ _ _ _ h,fun k=>by rw [zPK _ _ _ _ (hb _ _ q),Int.mul_comm],by rw [zKO _ _ _ h,Int.mul_comm]⟩
     | none =>
       simp only;refine ⟨zIK h,fun k=>?_,by rw [zIL _ _ _ h];omega⟩;rw [zNx];by_cases hk:k=x.1
       . subst hk;simp
       . simp [hk]
   obtain ⟨s1,s2,s3⟩:=st;obtain ⟨i1,i2,i3⟩:=zPL bl hb l _ s1;refine ⟨i1,fun k=>?_,?_⟩
   . rw [i2,s2,List.map_cons,List.sum_cons];omega
   . rw [i3,s3,List.map_cons,List.sum_cons];omega
theorem zF3 (c:Int):∀ rl:RL,zCG (zCf rl) c=(look rl c).map QD
 | []=>rfl
 | x :: rl=>by
   have ih:=zF3 c rl;unfold zCG look zCf at ih ⊢;rw [List.map_cons,List.find?_cons,List.find?_cons];by_cases h:x.1=c
   . simp [h]
   . simp only [h,decide_false];exact ih
theorem zKP (k:Int)(f:Int->List Int):∀ L:List Int,((L.flatMap f).count k:Int)=(L.map fun c=>((f c).count k:Int)).sum
 | []=>rfl
 | c :: L=>by rw [List.flatMap_cons,List.count_append,List.map_cons,List.sum_cons,<- zKP k f L];omega
theorem zPM (f:Int->List Int):∀ L:List Int,((L.flatMap f).length:Int)=(L.map fun c=>((f c).length:Int)).sum
 | []=>rfl
 | c :: L=>by rw [List.flatMap_cons,List.length_append,List.map_cons,List.sum_cons,<- zPM f L];omega
theorem zFW (rl:RL)(row:List Int):∀ g,ND (zCH rl row g)/\(∀ k,cnt (zCH rl row g) k=(zg rl row g).count k)/\total (zCH rl row g)=(zg rl row g).length
 | 0=>⟨zIM row,zGo row,zHJ row⟩
 | g+1=>by
   obtain ⟨i1,i2,i3⟩:=zFW rl row g;have hb:∀ c t,zCG (zCf rl) c=some t->ND t:=fun c t h=>by rw [zF3] at h;obtain ⟨r,_,rfl⟩:=Option.map_eq_some_iff.mp h;exact zIM r
   obtain ⟨j1,j2,j3⟩:=zPL (zCf rl) hb (zCH rl row g) [] (by simp [ND]);refine ⟨j1,fun k=>?_,?_⟩
   . show cnt ((zCH rl row g).foldl (stepT (zCf rl)) []) k=((zLR rl (zg rl row g)).count k:Int);rw [j2,cnt_nil,<- wsum (fun c=>wOf (zCf rl) c k) _ _ i1 i2];unfold zLR;rw [zKP,Int.zero_add];congr 1;apply List.map_congr_left;intro c _;unfold wOf;rw [zF3];cases look rl c with
     | none =>
       simp only [Option.map_none,Option.getD_none,List.count_cons,List.count_nil];by_cases h:k=c
       . subst h;simp
       . have:(c == k)=false:=by simp;exact fun z=>h z.symm
         simp [h,this]
     | some r=>simp only [Option.map_some,Option.getD_some];exact zGo r k
   . show total ((zCH rl row g).foldl (stepT (zCf rl)) [])=((zLR rl (zg rl row g)).length:Int);rw [j3,<- wsum (fun c=>lOf (zCf rl) c) _ _ i1 i2];unfold zLR;rw [zPM];have:total []=0:=rfl;rw [this,Int.zero_add];congr 1;apply List.map_congr_left;intro c _;unfold lOf;rw [zF3];cases look rl c with
     | none=>rfl
     | some r=>simp only [Option.map_some,Option.getD_some];exact zHJ r
end PT
namespace PT
open Trail
abbrev Low (l:List UInt8):Prop:=∀ c∈l,c.toNat < 128
def ex (w:World):Nat->List UInt8->List UInt8
 | 0,l=>l
 | g+1,l=>ex w g (l.flatMap fun c=>(w.rule c).getD [c])
theorem zU3 (w:World):∀ (g:Nat)(a b:List UInt8),ex w g (a ++ b)=ex w g a ++ ex w g b
 | 0,_,_=>rfl
 | g+1,a,b=>by show ex w g _=ex w g _ ++ ex w g _;rw [List.flatMap_append,zU3 w g]
theorem zU4 (w:World):∀ g,ex w g []=[]
 | 0=>rfl
 | g+1=>by show ex w g []=[];exact zU4 w g
theorem zSK (w:World):∀ (g:Nat)(l:List UInt8),ex w (g+1) l=(ex w g l).flatMap fun c=>(w.rule c).getD [c]
 | 0,_=>rfl
 | g+1,l=>by show ex w (g+1) (l.flatMap fun c=>(w.rule c).getD [c])=_;rw [zSK w g];rfl
theorem zU5 (w:World):∀ g,w.gen g=ex w g w.row
 | 0=>rfl
 | g+1=>by rw [zSK,<- zU5 w g];rfl
theorem zIN (t:UInt8->Nat):∀ (l:List UInt8)(a:Nat),l.foldl (fun (k:Nat)(c:UInt8)=>k+t c) a=a+(l.map t).sum
 | [],a=>by simp
 | c :: l,a=>by rw [List.foldl_cons,zIN t l,List.map_cons,List.sum_cons];omega
theorem zSL (w:World)(f:UInt8->Nat)(g:Nat):∀ l:List UInt8,((ex w g l).map f).sum=(l.map fun c=>((ex w g [c]).map f).sum).sum
 | []=>by rw [zU4];rfl
 | c :: l=>by rw [show c :: l=[c] ++ l from rfl,zU3,List.map_append,List.sum_append,zSL w f g l,List.map_append,List.sum_append];simp
theorem tab (w:World)(f:UInt8->Nat)(hw:∀ c s,w.rule c=some s->Low s):∀ (g n:Nat),n < 128->(w.table f g).getD n 0=((ex w g [UInt8.ofNat n]).map f).sum
 | 0,n,h=>by show ((List.range 128).map _).getD n 0=_;simp [List.getD,h,ex]
 | g+1,n,h=>by
   have e:w.table f (g+1)=(List.range 128).map fun (n:Nat)=>match w.rule (UInt8.ofNat n) with
     | some s=>s.foldl (fun (k:Nat)(c:UInt8)=>k+(w.table f g).getD c.toNat 0) 0
     | none=>(w.table f g).getD n 0:=rfl
   rw [e];simp only [List.getD,List.getElem?_map,List.getElem?_range h,Option.map_some,Option.getD_some];have e2:ex w (g+1) [UInt8.ofNat n]=ex w g ((w.rule (UInt8.ofNat n)).getD [UInt8.ofNat n]):=by show ex w g (List.flatMap _ [_])=_;simp
   rw [e2];cases q:w.rule (UInt8.ofNat n) with
   | none =>simp only [Option.getD_none];have:=tab w f hw g n h;unfold List.getD at this;exact this
   | some s =>simp only [Option.getD_some];rw [zIN (fun c=>((w.table f g)[c.toNat]?).getD 0) s 0,zSL,Nat.zero_add];congr 1;apply List.map_congr_left;intro c hc;have h1:=tab w f hw g c.toNat (hw _ _ q c hc);unfold List.getD at h1;rw [h1];simp
theorem zIO (w:World)(f:UInt8->Nat)(g:Nat)(hr:Low w.row)(hw:∀ c s,w.rule c=some s->Low s):w.sumOver f g=((w.gen g).map f).sum:=by show w.row.foldl (fun (k:Nat)(c:UInt8)=>k+(w.table f g).getD c.toNat 0) 0=_;rw [zIN,Nat.zero_add,zU5,zSL];congr 1;apply List.map_congr_left;intro c hc;rw [tab w f hw g c.toNat (hr c hc)];simp
theorem zSM:∀ l:List UInt8,(l.map fun _=>(1:Nat)).sum=l.length
 | []=>rfl
 | _ :: l=>by rw [List.map_cons,List.sum_cons,zSM l,List.length_cons];omega
structure j8 (w:World)(m:Int)(row:List Int)(rl:RL):Prop where
 em:w.m=m.toNat
 mT:m∈jW
 erow:w.row=row.map u8
 rowOk:qU m row=true/\∀ x∈row,qS x
 rules:∀ c,qS c->w.rule (u8 c)=(look rl c).map fun r=>r.map u8
 rlOk:∀ x∈rl,isLet x.1=true/\qU m x.2=true/\∀ y∈x.2,qS y
 sorted:(w.rules.map fun x=>x.1.toNat).Pairwise (· < ·)
 nd:(rl.map (·.1)).Nodup
 same:∀ c,(c∈rl.map (·.1))↔(0<=c/\c<=255/\u8 c∈w.rules.map (·.1))
theorem zIP {rl:RL}{c:Int}{r:List Int}(h:look rl c=some r):∃ x∈rl,x.1=c/\x.2=r:=by unfold look at h;obtain ⟨x,hx,rfl⟩:=Option.map_eq_some_iff.mp h;exact ⟨x,List.mem_of_find?_eq_some hx,by have:=List.find?_some hx;simpa using this,rfl⟩
theorem zCI {rl:RL}{row:List Int}(h1:∀ x∈row,qS x)(h2:∀ x∈rl,∀ y∈x.2,qS y):∀ g,∀ x∈zg rl row g,qS x
 | 0=>h1
 | g+1=>by
   intro x hx;have hx:x∈(zg rl row g).flatMap fun c=>(look rl c).getD [c]:=hx;obtain ⟨c,hc,hx⟩:=List.mem_flatMap.mp hx;cases q:look rl c with
   | none =>rw [q] at hx;simp at hx;subst hx;exact zCI h1 h2 g _ hc
   | some r =>rw [q] at hx;obtain ⟨y,hy,_,rfl⟩:=zIP q;exact h2 y hy x hx
theorem j8.gen {w:World}{m:Int}{row:List Int}{rl:RL}(R:j8 w m row rl):∀ g,w.gen g=(zg rl row g).map u8
 | 0=>R.erow
 | g+1=>by
   have hb:=zCI R.rowOk.2 (fun x hx=>(R.rlOk x hx).2.2) g;show (w.gen g).flatMap _=(zLR rl (zg rl row g)).map u8;rw [j8.gen R g];unfold zLR;rw [List.flatMap_map,List.map_flatMap];generalize zg rl row g=L at hb
   induction L with
   | nil=>rfl
   | cons c L ih =>rw [List.flatMap_cons,List.flatMap_cons,ih fun x hx=>hb x (List.mem_cons_of_mem _ hx)];congr 1;rw [R.rules c (hb c List.mem_cons_self)];cases look rl c <;> rfl
end PT
namespace PT
def zQX (rl:RL)(c:Int)(r:List Int):RL:=if (rl.any fun x=>decide (x.1=c))=true then rl.map (fun x=>if x.1=c then (x.1,r) else x) else rl ++ [(c,r)]
theorem zMr {m:List Int}:∀ {l:List Int},l.Nodup->(∀ x∈l,x∈m)->l.length<=m.length:=by
 induction m with
 | nil =>
   intro l _ h;cases l with
   | nil=>exact Nat.le_refl _
   | cons a l=>exact absurd (h a List.mem_cons_self) List.not_mem_nil
 | cons b m ih =>
   intro l nd h;have h1:=ih (l:=l.erase b) (nd.erase b) fun x hx=>by
     have:=nd.mem_erase_iff.mp hx;rcases List.mem_cons.mp (h x this.2) with e | e
     . exact absurd e this.1
     . exact e
   rw [List.length_erase] at h1;rw [List.length_cons];split at h1 <;> omega
end PT
namespace PT
open Trail
theorem zF4 {m:Int}(h:m∈jW):m=(m.toNat:Int):=by simp [jW] at h;omega
theorem zSN {m:Int}{l:List Int}(hm:m∈jW)(hl:∀ x∈l,qS x)(h:qU m l=true):l.length<=255:=by rw [zF4 hm,zAk _ _ hl] at h;unfold isRow at h;simp only [Bool.and_eq_true,decide_eq_true_eq,List.length_map] at h;exact h.2.2.1
theorem zSO (rl:RL)(c:Int)(r:List Int)(k:Int):look (zQX rl c r) k=if k=c then some r else look rl k:=by
 unfold zQX;split
 . rename_i h
   induction rl with
   | nil=>simp at h
   | cons x rl ih =>
     unfold look;rw [List.map_cons,List.find?_cons];by_cases e:x.1=c
     . rw [if_pos e];by_cases e2:k=c
       . subst e2;simp [e]
       . have e3:¬ x.1=k:=fun z=>e2 (z.symm.trans e);simp only [e3,decide_false,if_neg e2];rw [List.find?_cons];simp only [e3,decide_false];have h2:∀ (l:RL),(l.map fun x=>if x.1=c then (x.1,r) else x).find? (fun x=>decide (x.1=k))=l.find? fun x=>decide (x.1=k):=by
           intro l
           induction l with
           | nil=>rfl
           | cons y l ih2 =>
             rw [List.map_cons,List.find?_cons,List.find?_cons,ih2];by_cases e4:y.1=c
             . rw [if_pos e4];have:¬ y.1=k:=fun z=>e2 (z.symm.trans e4);simp [this]
             . rw [if_neg e4]
         rw [h2]
     . rw [if_neg e];have h' : (rl.any fun x=>decide (x.1=c))=true:=by
         rw [List.any_cons] at h;simpa [e] using h
       have ih:=ih h';unfold look at ih;rw [List.find?_cons];by_cases e5:x.1=k
       . have:¬ k=c:=fun z=>e (e5.trans z);simp [e5,this]
       . simp only [e5,decide_false];exact ih
 . rename_i h;have hn:∀ x∈rl,x.1≠c:=fun x hx e=>h (List.any_eq_true.mpr ⟨x,hx,decide_eq_true e⟩);unfold look;rw [List.find?_append];by_cases e:k=c
   . subst e;have:rl.find? (fun x=>decide (x.1=k))=none:=List.find?_eq_none.mpr fun x hx=>by simpa using hn x hx
     rw [this];simp
   . have:¬ c=k:=fun z=>e z.symm;rw [if_neg e];simp [this]
theorem zT5 (rl:RL)(c:Int)(r:List Int)(k:Int):k∈(zQX rl c r).map (·.1)↔k=c\/k∈rl.map (·.1):=by
 unfold zQX;split
 . rename_i h;have e:(rl.map fun x=>if x.1=c then (x.1,r) else x).map (·.1)=rl.map (·.1):=by
     rw [List.map_map];apply List.map_congr_left;intro x _;simp only [Function.comp];split <;> rfl
   rw [e];constructor
   . exact .inr
   . rintro (rfl | h2)
     . obtain ⟨x,hx,e⟩:=List.any_eq_true.mp h;exact List.mem_map.mpr ⟨x,hx,of_decide_eq_true e⟩
     . exact h2
 . rw [List.map_append,List.mem_append];simp [or_comm]
theorem zVy {rl:RL}{c:Int}{r:List Int}(h:(rl.map (·.1)).Nodup):((zQX rl c r).map (·.1)).Nodup:=by
 unfold zQX;split
 . have e:(rl.map fun x=>if x.1=c then (x.1,r) else x).map (·.1)=rl.map (·.1):=by
     rw [List.map_map];apply List.map_congr_left;intro x _;simp only [Function.comp];split <;> rfl
   rw [e];exact h
 . rename_i hn;rw [List.map_append,List.nodup_append];refine ⟨h,by simp,?_⟩;intro a ha b hb;simp at hb;subst hb;intro e;subst e;obtain ⟨x,hx,e⟩:=List.mem_map.mp ha;exact hn (List.any_eq_true.mpr ⟨x,hx,decide_eq_true e⟩)
theorem zT6 {Pr:Int×List Int->Prop}{rl:RL}{c:Int}{r:List Int}(h:∀ x∈rl,Pr x)(hc:Pr (c,r)):∀ x∈zQX rl c r,Pr x:=by
 unfold zQX;split
 . intro x hx;obtain ⟨y,hy,rfl⟩:=List.mem_map.mp hx;split
   . rename_i e;rw [e];exact hc
   . exact h y hy
 . intro x hx;rcases List.mem_append.mp hx with hx | hx
   . exact h x hx
   . rw [List.mem_singleton.mp hx];exact hc
theorem zPN (c:UInt8)(s:List UInt8)(k:UInt8):∀ l:List (UInt8×List UInt8),((putRule c s l).find? fun x=>x.1 == k).map (·.2)=if k=c then some s else (l.find? fun x=>x.1 == k).map (·.2)
 | []=>by
   unfold putRule;by_cases e:k=c
   . subst e;simp
   . have:¬ c=k:=fun z=>e z.symm;simp [this,e]
 | x :: l=>by
   have ih:=zPN c s k l;unfold putRule;by_cases e:x.1=c
   . rw [if_pos e];by_cases e2:k=c
     . subst e2;simp
     . have e3:(c == k)=false:=(by simpa using fun z:c=k=>e2 z.symm);have e4:(x.1 == k)=false:=by rw [e];exact e3
       rw [List.find?_cons,List.find?_cons,if_neg e2];simp [e3,e4]
   . rw [if_neg e];by_cases e5:c < x.1
     . rw [if_pos e5];by_cases e2:k=c
       . subst e2;simp
       . have e3:(c == k)=false:=(by simpa using fun z:c=k=>e2 z.symm);rw [List.find?_cons,if_neg e2];simp [e3]
     . rw [if_neg e5,List.find?_cons,List.find?_cons];by_cases e6:x.1=k
       . have:¬ k=c:=fun z=>e (e6.trans z);simp [e6,this]
       . have:(x.1 == k)=false:=(by simpa using e6);simp only [this];exact ih
theorem zNy (c:UInt8)(s:List UInt8)(k:UInt8):∀ l:List (UInt8×List UInt8),k∈(putRule c s l).map (·.1)↔k=c\/k∈l.map (·.1)
 | []=>by simp [putRule]
 | x :: l=>by
   have ih:=zNy c s k l;unfold putRule;split
   . rename_i e;simp [e]
   . split
     . simp
     . rw [List.map_cons,List.mem_cons,ih,List.map_cons,List.mem_cons];constructor
       . rintro (h | h | h)
         . exact .inr (.inl h)
         . exact .inl h
         . exact .inr (.inr h)
       . rintro (h | h | h)
         . exact .inr (.inl h)
         . exact .inl h
         . exact .inr (.inr h)
theorem zKQ (c:UInt8)(s:List UInt8):∀ l:List (UInt8×List UInt8),(l.map fun x=>x.1.toNat).Pairwise (· < ·)->((putRule c s l).map fun x=>x.1.toNat).Pairwise (· < ·)
 | [],_=>by simp [putRule]
 | x :: l,h=>by
   rw [List.map_cons,List.pairwise_cons] at h;have ih:=zKQ c s l h.2;unfold putRule;split
   . rename_i e;rw [List.map_cons,List.pairwise_cons];exact ⟨by rw [<- e];exact h.1,h.2⟩
   . rename_i e;split
     . rename_i e5;have e6:c.toNat < x.1.toNat:=UInt8.lt_iff_toNat_lt.mp e5;rw [List.map_cons,List.pairwise_cons];refine ⟨?_,by rw [List.map_cons,List.pairwise_cons];exact h⟩;intro y hy;rw [List.map_cons,List.mem_cons] at hy;rcases hy with rfl | hy
       . exact e6
       . exact Nat.lt_trans e6 (h.1 y hy)
     . rename_i e5;have e6:x.1.toNat < c.toNat:=by
         have h1:¬ c.toNat < x.1.toNat:=fun z=>e5 (UInt8.lt_iff_toNat_lt.mpr z);have h2:x.1.toNat≠c.toNat:=fun z=>e (UInt8.toNat_inj.mp z);omega
       rw [List.map_cons,List.pairwise_cons];refine ⟨?_,ih⟩;intro y hy;obtain ⟨z,hz,rfl⟩:=List.mem_map.mp hy;have:=(zNy c s z.1 l).mp (List.mem_map.mpr ⟨z,hz,rfl⟩);rcases this with e7 | e7
       . rw [e7];exact e6
       . obtain ⟨v,hv,e8⟩:=List.mem_map.mp e7;exact h.1 _ (List.mem_map.mpr ⟨v,hv,by rw [e8]⟩)
theorem zCg {c:Int}(h:isLet c=true):qS c:=by unfold isLet at h;simp only [Bool.or_eq_true,Bool.and_eq_true,decide_eq_true_eq] at h;omega
theorem j8.start {m:Int}(h:m∈jW):j8 (fresh m.toNat) m [] [] where
 em:=rfl
 mT:=h
 erow:=rfl
 rowOk:=⟨by rw [zF4 h,zAk _ _ (by simp)];simp [isRow,Trail.paired],by simp⟩
 rules:=fun c _=>rfl
 rlOk:=by simp
 sorted:=by simp [fresh]
 nd:=by simp
 same:=by simp [fresh]
theorem j8.zGf {w:World}{m:Int}{row:List Int}{rl:RL}(R:j8 w m row rl){ts:List Int}(h1:qU m ts=true)(h2:∀ x∈ts,qS x):j8 { w with row:=ts.map u8 } m ts rl where
 em:=R.em
 mT:=R.mT
 erow:=rfl
 rowOk:=⟨h1,h2⟩
 rules:=R.rules
 rlOk:=R.rlOk
 sorted:=R.sorted
 nd:=R.nd
 same:=R.same
theorem j8.zYj {w:World}{m:Int}{row:List Int}{rl:RL}(R:j8 w m row rl){c:Int}{ts:List Int}(hc:isLet c=true)(h1:qU m ts=true)(h2:∀ x∈ts,qS x):j8 { w with rules:=putRule (u8 c) (ts.map u8) w.rules } m row (zQX rl c ts) where
 em:=R.em
 mT:=R.mT
 erow:=R.erow
 rowOk:=R.rowOk
 rules:=fun k hk=>by
   show ((putRule (u8 c) (ts.map u8) w.rules).find? fun x=>x.1 == u8 k).map (·.2)=_;rw [zPN,zSO];by_cases e:k=c
   . rw [if_pos (by rw [e]),if_pos e];rfl
   . rw [if_neg (fun z=>e (zKM hk (zCg hc) z)),if_neg e];exact R.rules k hk
 rlOk:=zT6 R.rlOk ⟨hc,h1,h2⟩
 sorted:=zKQ _ _ _ R.sorted
 nd:=zVy R.nd
 same:=fun k=>by
   rw [zT5];show _↔0<=k/\k<=255/\u8 k∈(putRule (u8 c) (ts.map u8) w.rules).map (·.1);rw [zNy];constructor
   . rintro (rfl | h)
     . exact ⟨(zCg hc).1,(zCg hc).2,.inl rfl⟩
     . have:=(R.same k).mp h;exact ⟨this.1,this.2.1,.inr this.2.2⟩
   . rintro ⟨h1,h2,h3 | h3⟩
     . exact .inl (zKM ⟨h1,h2⟩ (zCg hc) h3)
     . exact .inr ((R.same k).mpr ⟨h1,h2,h3⟩)
theorem zMs {k:Int}(hk:qS k):∀ rl:RL,(∀ x∈rl,qS x.1)->((conv rl).find? fun x=>x.1 == u8 k).map (·.2)=(look rl k).map fun r=>r.map u8
 | [],_=>rfl
 | x :: rl,h=>by
   have ih:=zMs hk rl fun y hy=>h y (List.mem_cons_of_mem _ hy);have hx:=h x List.mem_cons_self;have e:conv (x :: rl)=(u8 x.1,x.2.map u8) :: conv rl:=rfl;rw [e,List.find?_cons];unfold look at *;rw [List.find?_cons];by_cases e1:x.1=k
   . simp [e1]
   . have e2:(u8 x.1 == u8 k)=false:=(by simpa using fun z=>e1 (zKM hx hk z));simp only [e2,e1,decide_false];exact ih
theorem j8.zYk {m:Int}{row:List Int}{rl:RL}(hm:m∈jW)(h1:qU m row=true)(h2:∀ x∈row,qS x)(h3:(rl.map (·.1)).Pairwise (· < ·))(h4:∀ x∈rl,isLet x.1=true/\qU m x.2=true/\∀ y∈x.2,qS y):j8 ⟨m.toNat,row.map u8,conv rl⟩ m row rl:=by
 have hb:∀ x∈rl,qS x.1:=fun x hx=>zCg (h4 x hx).1;refine ⟨rfl,hm,rfl,⟨h1,h2⟩,fun c hc=>zMs hc rl hb,h4,?_,?_,?_⟩
 . show ((conv rl).map fun x=>x.1.toNat).Pairwise (· < ·);unfold conv;rw [List.map_map];rw [List.pairwise_map] at h3 ⊢;refine h3.imp_of_mem fun {a b} ha hb' hab=>?_;simp only [Function.comp];rw [zDr (hb a ha),zDr (hb b hb')];have:=hb a ha;omega
 . exact h3.imp fun h=>by omega
 . intro c;show _↔0<=c/\c<=255/\u8 c∈(conv rl).map (·.1);unfold conv;rw [List.map_map];constructor
   . intro h;obtain ⟨x,hx,rfl⟩:=List.mem_map.mp h;exact ⟨(hb x hx).1,(hb x hx).2,List.mem_map.mpr ⟨x,hx,rfl⟩⟩
   . rintro ⟨a1,a2,h⟩;obtain ⟨x,hx,e⟩:=List.mem_map.mp h;exact List.mem_map.mpr ⟨x,hx,zKM (hb x hx) ⟨a1,a2⟩ e⟩
def letters:List Int:=((List.range 26).map fun (n:Nat)=>(65+(n:Int))) ++ (List.range 26).map fun (n:Nat)=>(97+(n:Int))
theorem zVz {c:Int}(h:isLet c=true):c∈letters:=by
 unfold isLet at h;simp only [Bool.or_eq_true,Bool.and_eq_true,decide_eq_true_eq] at h;unfold letters;rw [List.mem_append];rcases h with h | h
 . exact .inl (List.mem_map.mpr ⟨(c - 65).toNat,List.mem_range.mpr (by omega),by omega⟩)
 . exact .inr (List.mem_map.mpr ⟨(c - 97).toNat,List.mem_range.mpr (by omega),by omega⟩)
theorem j8.few {w:World}{m:Int}{row:List Int}{rl:RL}(R:j8 w m row rl):rl.length<=52:=by
 have:=zMr R.nd (m:=letters) fun x hx=>by obtain ⟨y,hy,rfl⟩:=List.mem_map.mp hx;exact zVz (R.rlOk y hy).1
 rw [List.length_map] at this;have e:letters.length=52:=by simp [letters]
 omega
theorem j8.zYL {w:World}{m:Int}{row:List Int}{rl:RL}(R:j8 w m row rl):row.length<=255:=zSN R.mT R.rowOk.2 R.rowOk.1
theorem j8.rlL {w:World}{m:Int}{row:List Int}{rl:RL}(R:j8 w m row rl):∀ y∈rl,y.2.length<=255:=fun y hy=>zSN R.mT (R.rlOk y hy).2.2 (R.rlOk y hy).2.1
theorem zSP {x:Int}(h:jk x=true):0<=x/\x < 128:=by unfold jk isLet at h;simp at h;omega
theorem zSQ {m:Int}{l:List Int}(hm:m∈jW)(hl:∀ x∈l,qS x)(h:qU m l=true):∀ x∈l,jk x=true:=by rw [zF4 hm,zAk _ _ hl] at h;unfold isRow at h;simp only [Bool.and_eq_true] at h;have:=h.1;rw [zNv l hl] at this;exact List.all_eq_true.mp this
theorem zSR {l:List Int}(h:∀ x∈l,jk x=true):Low (l.map u8):=fun c hc=>by obtain ⟨x,hx,rfl⟩:=List.mem_map.mp hc;have:=zSP (h x hx);rw [zDr ⟨this.1,by omega⟩];omega
theorem j8.zU6 {w:World}{m:Int}{row:List Int}{rl:RL}(R:j8 w m row rl):Low w.row:=by rw [R.erow];exact zSR (zSQ R.mT R.rowOk.2 R.rowOk.1)
theorem zXk (c:UInt8):u8 (c.toNat:Int)=c:=by unfold u8;rw [Int.toNat_natCast];exact UInt8.ofNat_toNat
theorem j8.zPO {w:World}{m:Int}{row:List Int}{rl:RL}(R:j8 w m row rl):∀ c s,w.rule c=some s->Low s:=fun c s h=>by have hb:qS (c.toNat:Int):=⟨by omega,by have:=c.toNat_lt;omega⟩;have e:=R.rules _ hb;rw [zXk,h] at e;obtain ⟨r,hr,e2⟩:=Option.map_eq_some_iff.mp e.symm;obtain ⟨y,hy,_,rfl⟩:=zIP hr;rw [<- e2];exact zSR (zSQ R.mT (R.rlOk y hy).2.2 (R.rlOk y hy).2.1)
theorem j8.sum {w:World}{m:Int}{row:List Int}{rl:RL}(R:j8 w m row rl)(f:UInt8->Nat)(g:Nat):w.sumOver f g=((zg rl row g).map fun x=>f (u8 x)).sum:=by rw [zIO w f g R.zU6 R.zPO,R.gen,List.map_map];rfl
theorem j8.len {w:World}{m:Int}{row:List Int}{rl:RL}(R:j8 w m row rl)(g:Nat):w.length g=(zg rl row g).length:=by show w.sumOver (fun _=>1) g=_;rw [zIO w _ g R.zU6 R.zPO,zSM,R.gen,List.length_map]
theorem zMt {c:Int}(c0:0<=c):∀ l:List Int,(∀ x∈l,qS x)->(l.map fun x=>if (u8 x).toNat=c.toNat then 1 else 0).sum=l.count c
 | [],_=>by simp
 | x :: l,h=>by
   have hx:=h x List.mem_cons_self;rw [List.map_cons,List.sum_cons,zMt c0 l fun y hy=>h y (List.mem_cons_of_mem _ hy),zDr hx,List.count_cons];by_cases e:x=c
   . subst e;simp;omega
   . have:¬ x.toNat=c.toNat:=(by omega);simp [this,e]
theorem j8.cnt {w:World}{m:Int}{row:List Int}{rl:RL}(R:j8 w m row rl)(g:Nat){c:Int}(hc:0<=c):w.sumOver (fun b=>if b.toNat=c.toNat then 1 else 0) g=(zg rl row g).count c:=by rw [R.sum,zMt hc _ (zCI R.rowOk.2 (fun x hx=>(R.rlOk x hx).2.2) g)]
theorem zKR:∀ {l l' : List Nat},l.Pairwise (· < ·)->l'.Pairwise (· < ·)->(∀ x,x∈l↔x∈l')->l=l'
 | [],[],_,_,_=>rfl
 | [],a :: l',_,_,h=>absurd ((h a).mpr List.mem_cons_self) List.not_mem_nil
 | a :: l,[],_,_,h=>absurd ((h a).mp List.mem_cons_self) List.not_mem_nil
 | a :: l,b :: l',h1,h2,h=>by
   rw [List.pairwise_cons] at h1 h2;have e:a=b:=by
     have x1:=(h a).mp List.mem_cons_self;have x2:=(h b).mpr List.mem_cons_self;rcases List.mem_cons.mp x1 with e | e
     . exact e
     . rcases List.mem_cons.mp x2 with e2 | e2
       . exact e2.symm
       . have:=h2.1 a e;have:=h1.1 b e2;omega
   subst e;congr 1;refine zKR h1.2 h2.2 fun x=>⟨fun hx=>?_,fun hx=>?_⟩
   . rcases List.mem_cons.mp ((h x).mp (List.mem_cons_of_mem _ hx)) with e | e
     . subst e;exact absurd (h1.1 _ hx) (Nat.lt_irrefl _)
     . exact e
   . rcases List.mem_cons.mp ((h x).mpr (List.mem_cons_of_mem _ hx)) with e | e
     . subst e;exact absurd (h2.1 _ hx) (Nat.lt_irrefl _)
     . exact e
theorem find_key:∀ {l:List (UInt8×List UInt8)}{x:UInt8×List UInt8},(l.map fun x=>x.1.toNat).Pairwise (· < ·)->x∈l->(l.find? fun y=>y.1 == x.1).map (·.2)=some x.2
 | [],_,_,h=>by cases h
 | a :: l,x,h,hx=>by
   rw [List.map_cons,List.pairwise_cons] at h;rw [List.find?_cons];rcases List.mem_cons.mp hx with rfl | hx
   . simp
   . have:(a.1 == x.1)=false:=by
       have:=h.1 _ (List.mem_map.mpr ⟨x,hx,rfl⟩);simpa using fun z:a.1=x.1=>by rw [z] at this;omega
     simp only [this];exact find_key h.2 hx
theorem j8.zV0 {w:World}{m:Int}{row:List Int}{rl:RL}(R:j8 w m row rl){ns:List Int}(hp:ns.Perm (rl.map (·.1)))(hs:ns.Pairwise (·<=·)):w.rules=ns.map fun c=>(u8 c,((look rl c).getD []).map u8):=by
 have nd:ns.Nodup:=hp.nodup_iff.mpr R.nd;have hb:∀ c∈ns,qS c:=fun c hc=>by obtain ⟨x,hx,rfl⟩:=List.mem_map.mp (hp.mem_iff.mp hc);exact zCg (R.rlOk x hx).1
 have st:ns.Pairwise (· < ·):=by have:=hs.and nd;exact this.imp fun ⟨a,b⟩=>by omega
 have st2:(ns.map Int.toNat).Pairwise (· < ·):=by rw [List.pairwise_map];refine st.imp_of_mem fun {a b} ha hb' hab=>?_;have:=hb a ha;omega
 have keys:(w.rules.map fun x=>x.1.toNat)=ns.map Int.toNat:=by
   refine zKR R.sorted st2 fun k=>⟨fun hk=>?_,fun hk=>?_⟩
   . obtain ⟨x,hx,rfl⟩:=List.mem_map.mp hk;have h1:((x.1.toNat:Nat):Int)∈rl.map (·.1):=(R.same _).mpr ⟨by omega,by have:=x.1.toNat_lt;omega,by rw [zXk];exact List.mem_map.mpr ⟨x,hx,rfl⟩⟩;exact List.mem_map.mpr ⟨_,hp.mem_iff.mpr h1,by omega⟩
   . obtain ⟨c,hc,rfl⟩:=List.mem_map.mp hk;obtain ⟨a1,a2,a3⟩:=(R.same c).mp (hp.mem_iff.mp hc);obtain ⟨x,hx,e⟩:=List.mem_map.mp a3;exact List.mem_map.mpr ⟨x,hx,by rw [e,zDr ⟨a1,a2⟩]⟩
 have hl:w.rules.length=ns.length:=by have:=congrArg List.length keys;simpa using this
 apply List.ext_getElem?;intro i;rw [List.getElem?_map];by_cases hi:i < ns.length
 . obtain ⟨x,hx⟩ : ∃ x,w.rules[i]? = some x:=⟨_,List.getElem?_eq_getElem (by omega)⟩;obtain ⟨c,hc⟩ : ∃ c,ns[i]? = some c:=⟨_,List.getElem?_eq_getElem hi⟩;have hk:x.1.toNat=c.toNat:=by
     have:=congrArg (fun l=>l[i]?) keys;simp only [List.getElem?_map,hx,hc,Option.map_some] at this;exact Option.some.inj this
   have cb:=hb c (List.mem_of_getElem? hc);have k1:x.1=u8 c:=UInt8.toNat_inj.mp (by rw [zDr cb,hk]);have k2:=find_key R.sorted (List.mem_of_getElem? hx);have k3:=R.rules c cb;unfold World.rule at k3;rw [k1] at k2;rw [k2] at k3;obtain ⟨r,hr,e2⟩:=Option.map_eq_some_iff.mp k3.symm;rw [hx,hc,Option.map_some,hr,Option.getD_some,e2,<- k1]
 . rw [List.getElem?_eq_none (by omega),List.getElem?_eq_none (by omega)];rfl
theorem zT7:∀ m∈jW,dec m.toNat ++ [10]=(zc m).map u8:=by decide +kernel
theorem j8.text {w:World}{m:Int}{row:List Int}{rl:RL}(R:j8 w m row rl){ns:List Int}(hp:ns.Perm (rl.map (·.1)))(hs:ns.Pairwise (·<=·)):w.text=(zc m ++ row ++ [10] ++ ns.flatMap fun c=>c :: 61 :: ((look rl c).getD [] ++ [10])).map u8:=by unfold World.text;rw [R.em,R.erow,R.zV0 hp hs];have e1:=zT7 m R.mT;rw [List.map_append,List.map_append,List.map_append,<- e1,List.map_flatMap,List.flatMap_map];simp only [List.append_assoc,List.singleton_append,List.cons_append,List.nil_append,List.map_cons,List.map_nil,List.map_append];rfl
theorem zSS (w:World):List.replicate 128 1=w.table (fun _=>1) 0:=by show _=(List.range 128).map fun (_:Nat)=>1;decide
theorem zQY (w:World)(f:UInt8->Nat)(k:Nat):TrailNeutral.more w (w.table f k)=w.table f (k+1):=rfl
theorem zKS (w:World):∀ (g k j:Nat),j<=g->w.length (k+j)<=TrailNeutral.written w g (w.table (fun _=>1) k)
 | 0,k,j,h=>by have:j=0:=(by omega);subst this;exact Nat.le_refl _
 | g+1,k,j,h=>by
   have e:TrailNeutral.written w (g+1) (w.table (fun _=>1) k)=w.length k+TrailNeutral.written w g (TrailNeutral.more w (w.table (fun _=>1) k)):=rfl;rw [e,zQY];cases j with
   | zero=>exact Nat.le_add_right _ _
   | succ j =>
     have:=zKS w g (k+1) j (by omega);have e2:k+(j+1)=k+1+j:=by omega
     rw [e2];omega
theorem zPP {w:World}{g:Int}{bad:Bool}{n:Nat}(h:TrailNeutral.ofGen w g bad<=n)(h1:g.toNat<=64)(h2:bad=false)(h3:w.fits g.toNat=true):∀ j,j<=g.toNat->w.length j<=n:=fun j hj=>by
 unfold TrailNeutral.ofGen at h;rw [if_neg (by unfold TrailNeutral.nat GENS;rw [h2,h3];simp;omega)] at h
 rw [zSS w] at h;have:=zKS w g.toNat 0 j hj;rw [Nat.zero_add] at this;exact Nat.le_trans this h
open PyFlat in
theorem call_num {shape:Int->Option (Nat×Nat)}{p:Int}{r:List Int}{n:Nat}{c:List (List Int)}{t:List Int}(hs:shape p=some (n,0))(h:call shape (p :: r)=some (c,t)):n<=r.length/\c=[p :: r.take n]/\t=r.drop n:=by
 unfold call at h;simp only [hs] at h;split at h
 . cases h
 . rename_i hl;unfold rows at h;simp only [Option.some.injEq,Prod.mk.injEq] at h;exact ⟨by omega,h.1.symm,h.2.symm⟩
open PyFlat in
theorem zF5 {shape:Int->Option (Nat×Nat)}{p:Int}{r:List Int}{n:Nat}{c:List (List Int)}{t:List Int}(hs:shape p=some (n,1))(h:call shape (p :: r)=some (c,t)):n<=r.length/\∃ (k:Nat)(s:List Int),r.drop n=(k:Int) :: s/\k<=s.length/\c=[p :: r.take n,s.take k]/\t=s.drop k:=by
 unfold call at h;simp only [hs] at h;split at h
 . cases h
 . rename_i hl;refine ⟨by omega,?_⟩;unfold rows at h;cases hd:r.drop n with
   | nil=>rw [hd] at h;simp [row] at h
   | cons k s =>
     rw [hd] at h;have e1:row (k :: s)=if 0<=k/\k.toNat<=s.length then some (s.take k.toNat,s.drop k.toNat) else none:=rfl;rw [e1] at h;by_cases hk:0<=k/\k.toNat<=s.length
     . rw [if_pos hk] at h;unfold rows at h;simp only [Option.some.injEq,Prod.mk.injEq] at h;exact ⟨k.toNat,s,by rw [Int.toNat_of_nonneg hk.1],hk.2,h.1.symm,h.2.symm⟩
     . rw [if_neg hk] at h;cases h
open PyFlat in
theorem zQZ {shape:Int->Option (Nat×Nat)}{f:Nat}{p:Int}{r:List Int}{cs:List (List (List Int))}(h:calls shape f (p :: r)=some cs):∃ f' c t cs',call shape (p :: r)=some (c,t)/\calls shape f' t=some cs'/\cs=c :: cs':=by
 cases f with
 | zero=>unfold calls at h;cases h
 | succ f =>
   unfold calls at h;cases e:call shape (p :: r) with
   | none=>rw [e] at h;cases h
   | some x =>
     rw [e] at h;obtain ⟨c,t⟩:=x;simp only at h;cases e2:calls shape f t with
     | none=>rw [e2] at h;cases h
     | some cs' =>rw [e2] at h;exact ⟨f,c,t,cs',rfl,e2,(Option.some.inj h).symm⟩
open PyFlat in
theorem zST {shape:Int->Option (Nat×Nat)}{f:Nat}{cs:List (List (List Int))}(h:calls shape f []=some cs):cs=[]:=by unfold calls at h;exact (Option.some.inj h).symm
theorem zNz:∀ (cs:List (List (List Int))) (s:State),TrailNeutral.play s cs=PyFlat.played TrailNeutral.step s cs
 | [],_=>rfl
 | c :: cs,s=>by show (TrailNeutral.step s c).2 :: TrailNeutral.play _ cs=_ :: _;rw [zNz cs]
theorem zPQ:∀ (l:List (List Int)) (k:Nat),(PyFlat.told l).length+k<=l.foldl (fun (n:Nat)(a:List Int)=>n+TrailNeutral.sizeOf a) k+3 * l.length
 | [],k=>by simp [PyFlat.told]
 | a :: l,k=>by
   have ih:=zPQ l (k+TrailNeutral.sizeOf a);have e:PyFlat.told (a :: l)=((a.length:Int) :: a) ++ PyFlat.told l:=rfl;rw [e,List.length_append,List.length_cons,List.foldl_cons,List.length_cons];have hs:a.length<=TrailNeutral.sizeOf a+2:=by unfold TrailNeutral.sizeOf;split <;> omega
   omega
theorem zKT {S:Type}(step:S->List (List Int)->S×List Int):∀ (cs:List (List (List Int))) (s:S),(PyFlat.played step s cs).length=cs.length
 | [],_=>rfl
 | c :: cs,s=>by show (PyFlat.played step _ cs).length+1=_;rw [zKT step cs,List.length_cons]
structure zYl (l:List Int)(cs:List (List (List Int))):Prop where
 dec:PyFlat.calls PyWqazat.shape l.length l=some cs
 one:∀ c∈cs,TrailNeutral.asked1 (PyWqazat.whole c)=true
 light:TrailNeutral.light 100000 TrailNeutral.start (cs.map PyWqazat.whole)=true
 due:PyWqazat.answers l=PyFlat.told (PyFlat.played TrailNeutral.step TrailNeutral.start (cs.map PyWqazat.whole))
 short:(PyWqazat.answers l).length < 1001200
theorem zT8 {l:List Int}(h:PyWqazat.answers_asked l=true):∃ cs,zYl l cs:=by
 unfold PyWqazat.answers_asked PyWqazat.calls at h;cases e:PyFlat.calls PyWqazat.shape l.length l with
 | none=>rw [e] at h;cases h
 | some cs =>
   rw [e] at h;simp only [Bool.and_eq_true] at h;obtain ⟨h1,h2⟩:=h;unfold TrailNeutral.asked at h2;simp only [Bool.and_eq_true,decide_eq_true_eq] at h2;obtain ⟨⟨⟨⟨a1,a2⟩,a3⟩,a4⟩,a5⟩:=h2;have due:PyWqazat.answers l=PyFlat.told (PyFlat.played TrailNeutral.step TrailNeutral.start (cs.map PyWqazat.whole)):=by unfold PyWqazat.answers PyWqazat.calls;rw [e]
   refine ⟨cs,e,fun c hc=>List.all_eq_true.mp a1 _ (List.mem_map.mpr ⟨c,hc,rfl⟩),a4,due,?_⟩;have h3:=zPQ (PyFlat.played TrailNeutral.step TrailNeutral.start (cs.map PyWqazat.whole)) 0;rw [zKT,<- zNz] at h3;rw [due,<- zNz];omega
end PT
namespace PT
open Trail
theorem zPR {l:List Int}(h:∀ x∈l,qS x):(l.map u8).map (fun b=>(b.toNat:Int))=l:=by
 rw [List.map_map]
 conv=>rhs;rw [<- List.map_id l]
 apply List.map_congr_left;intro x hx;exact u8_back (h x hx)
section
variable {w:World}{m:Int}{row:List Int}{rl:RL}
theorem zPS:jW=ROUNDS.map Int.ofNat:=rfl
theorem rnd {n:Nat}:((n:Int)∈jW)↔n∈ROUNDS:=by rw [zPS,List.mem_map];exact ⟨fun ⟨x,hx,e⟩=>Int.ofNat.inj e ▸ hx,fun z=>⟨n,z,rfl⟩⟩
theorem rounds {k:Int}(h:0<=k):ROUNDS.contains k.toNat=decide (k∈jW):=by obtain ⟨n,rfl⟩:=Int.eq_ofNat_of_zero_le h;rw [Int.toNat_natCast,List.contains_eq_mem];exact decide_eq_decide.mpr rnd.symm
theorem zT9 {k:Int}(h:0<=k):TrailNeutral.step w [[1,k]]=if k∈jW then (fresh k.toNat,[0]) else (w,[-1]):=by
 have e:TrailNeutral.step w [[1,k]]=((Trail.step w (.start k.toNat)).1,NLines.flat (Trail.step w (.start k.toNat)).2.ret (Trail.step w (.start k.toNat)).2.nums ((Trail.step w (.start k.toNat)).2.text.map fun b=>(b.toNat:Int))):=rfl;rw [e];unfold Trail.step;simp only [rounds h];by_cases c:k∈jW
 . simp [c,says,NLines.flat]
 . simp [c,says,NLines.flat]
theorem zPT (R:j8 w m row rl){ts:List Int}(h:∀ x∈ts,qS x):isRow w.m (ts.map u8)=qU m ts:=by rw [R.em,<- zAk _ _ h,<- zF4 R.mT]
theorem zXl (R:j8 w m row rl){ts:List Int}(h:∀ x∈ts,qS x):TrailNeutral.step w [[2],ts]=if qU m ts=true then ({ w with row:=ts.map u8 },[0]) else (w,[-3]):=by
 have e:TrailNeutral.step w [[2],ts]=((Trail.step w (.row (ts.map u8))).1,NLines.flat (Trail.step w (.row (ts.map u8))).2.ret (Trail.step w (.row (ts.map u8))).2.nums ((Trail.step w (.row (ts.map u8))).2.text.map fun b=>(b.toNat:Int))):=rfl;rw [e];unfold Trail.step;simp only [zPT R h];by_cases c:qU m ts=true
 . simp [c,says,NLines.flat]
 . simp [c,says,NLines.flat]
theorem zV1 {c:Int}(h:0<=c):isByteLetter c.toNat=isLet c:=by
 unfold isByteLetter;by_cases e:c < 128
 . have e1:decide (c.toNat < 128)=true:=decide_eq_true (by omega);have e2:=zR8 (x:=c) ⟨h,by omega⟩;unfold u8 at e2;rw [e1,e2,Bool.true_and]
 . have e1:decide (c.toNat < 128)=false:=decide_eq_false (by omega);have e2:isLet c=false:=by
     unfold isLet;simp;omega
   rw [e1,e2,Bool.false_and]
theorem zV2 {c:Int}(h:0<=c):isByteSign c.toNat=jk c:=by
 unfold isByteSign;by_cases e:c < 128
 . have e1:decide (c.toNat < 128)=true:=decide_eq_true (by omega);have e2:=zPI (x:=c) ⟨h,by omega⟩;unfold u8 at e2;rw [e1,e2,Bool.true_and]
 . have e1:decide (c.toNat < 128)=false:=decide_eq_false (by omega);have e2:jk c=false:=by
     cases q:jk c with
     | false=>rfl
     | true=>exact absurd (zSP q).2 e
   rw [e1,e2,Bool.false_and]
theorem zV3 (R:j8 w m row rl){c:Int}(hc:0<=c){ts:List Int}(h:∀ x∈ts,qS x):TrailNeutral.step w [[3,c],ts]=if isLet c=false then (w,[-1]) else if qU m ts=true then ({ w with rules:=putRule (u8 c) (ts.map u8) w.rules },[0]) else (w,[-3]):=by
 have e:TrailNeutral.step w [[3,c],ts]=((Trail.step w (.rule c.toNat (ts.map u8))).1,NLines.flat (Trail.step w (.rule c.toNat (ts.map u8))).2.ret (Trail.step w (.rule c.toNat (ts.map u8))).2.nums ((Trail.step w (.rule c.toNat (ts.map u8))).2.text.map fun b=>(b.toNat:Int))):=rfl;rw [e];unfold Trail.step;simp only [zPT R h,zV1 hc];by_cases c0:isLet c=false
 . simp [c0,says,NLines.flat]
 . by_cases c1:qU m ts=true
   . simp [c0,c1,says,NLines.flat,u8]
   . simp [c0,c1,says,NLines.flat]
theorem zV4 {ts:List Int}:TrailNeutral.step w [[4],ts]=if 65536 < ts.length then (w,[-1]) else match readWorld (ts.map u8) with
   | .error k=>(w,[-3,1,(k:Int),0])
   | .ok v=>(v,[0]):=by
 have e:TrailNeutral.step w [[4],ts]=((Trail.step w (.read (ts.map u8))).1,NLines.flat (Trail.step w (.read (ts.map u8))).2.ret (Trail.step w (.read (ts.map u8))).2.nums ((Trail.step w (.read (ts.map u8))).2.text.map fun b=>(b.toNat:Int))):=rfl;rw [e];unfold Trail.step TEXT;simp only [List.length_map];by_cases c:65536 < ts.length
 . simp [c,says,NLines.flat]
 . simp only [c,if_false];cases readWorld (ts.map u8) with
   | error k=>simp [tells,NLines.flat]
   | ok v=>simp [says,NLines.flat]
theorem zSU (c:List (List Int))(x:Trail.Call)(h1:TrailNeutral.callOf c=some x)(h2:Trail.step w x=(w,told w x)):TrailNeutral.step w c=(w,NLines.flat (told w x).ret (told w x).nums ((told w x).text.map fun b=>(b.toNat:Int))):=by unfold TrailNeutral.step;rw [h1];simp only [h2]
theorem zUA:TrailNeutral.step w [[5]]=(w,NLines.flat (w.text.length:Int) [] (w.text.map fun b=>(b.toNat:Int))):=zSU [[5]] .write rfl rfl
theorem fits_of (R:j8 w m row rl)(g:Nat):w.fits g=decide ((zg rl row g).length < 18446744073709551616):=by unfold World.fits;rw [R.len]
def zCh (g:Nat)(bad:Bool)(len:Nat):Int:=if 64 < g then -1 else if bad=true then -2 else if 18446744073709551616<=len then -7 else 0
theorem zSV (R:j8 w m row rl)(g:Nat)(bad:Bool)(f:Unit->Ans):ofGen w g bad f=if zCh g bad (zg rl row g).length < 0 then says (zCh g bad (zg rl row g).length) else f ():=by
 unfold ofGen zCh GENS;rw [fits_of R];by_cases c1:64 < g
 . simp [c1]
 . by_cases c2:bad=true
   . simp [c1,c2]
   . by_cases c3:18446744073709551616<=(zg rl row g).length
     . have:¬ (zg rl row g).length < 18446744073709551616:=(by omega);simp [c1,c2,c3,this]
     . have:(zg rl row g).length < 18446744073709551616:=(by omega);simp [c1,c2,c3,this]
theorem zSW (z:Int):NLines.flat (says z).ret (says z).nums ((says z).text.map fun b=>(b.toNat:Int))=[z]:=by simp [says,NLines.flat]
def zPU (a:Ans):List Int:=NLines.flat a.ret a.nums (a.text.map fun b=>(b.toNat:Int))
theorem zDs (R:j8 w m row rl)(c:List (List Int))(x:Trail.Call)(g:Nat)(bad:Bool)(f:Unit->Ans)(h1:TrailNeutral.callOf c=some x)(h2:Trail.step w x=(w,told w x))(h3:told w x=ofGen w g bad f) : TrailNeutral.step w c=(w,if zCh g bad (zg rl row g).length < 0 then [zCh g bad (zg rl row g).length] else zPU (f ())):=by
 rw [zSU c x h1 h2,h3,zSV R];split
 . rw [zSW]
 . rfl
theorem zLT {g:Nat}{bad:Bool}{len:Nat}(c:¬ zCh g bad len < 0):zCh g bad len=0/\g<=64/\bad=false/\len < 18446744073709551616:=by
 unfold zCh at *;split at c
 . exact absurd (by decide) c
 . split at c
   . exact absurd (by decide) c
   . split at c
     . exact absurd (by decide) c
     . rename_i a b d;rw [if_neg a,if_neg b,if_neg d];exact ⟨rfl,by omega,by simpa using b,by omega⟩
theorem zSX (R:j8 w m row rl){g:Int}:TrailNeutral.step w [[6,g]]=(w,if zCh g.toNat false (zg rl row g.toNat).length < 0 then [zCh g.toNat false (zg rl row g.toNat).length] else NLines.flat 0 [((zg rl row g.toNat).length:Int)] []):=by rw [zDs R [[6,g]] (.length g.toNat) g.toNat false (fun _=>tells 0 [(w.length g.toNat:Int)]) rfl rfl rfl,R.len];rfl
theorem zUB (R:j8 w m row rl){g c:Int}(hc:0<=c):TrailNeutral.step w [[7,g,c]]=(w,if zCh g.toNat (!jk c) (zg rl row g.toNat).length < 0 then [zCh g.toNat (!jk c) (zg rl row g.toNat).length] else NLines.flat 0 [((zg rl row g.toNat).count c:Int)] []):=by rw [zDs R [[7,g,c]] (.count g.toNat c.toNat) g.toNat (!isByteSign c.toNat) (fun _=>tells 0 [(w.sumOver (fun (b:UInt8)=>if b.toNat=c.toNat then 1 else 0) g.toNat:Int)]) rfl rfl rfl,R.cnt _ hc,zV2 hc];rfl
theorem zUC (R:j8 w m row rl){g i n:Int}:TrailNeutral.step w [[8,g,i,n]]=(w,if zCh g.toNat (decide (10000 < n.toNat)) (zg rl row g.toNat).length < 0 then [zCh g.toNat (decide (10000 < n.toNat)) (zg rl row g.toNat).length] else NLines.flat ((((zg rl row g.toNat).drop i.toNat).take n.toNat).length:Int) [] (((zg rl row g.toNat).drop i.toNat).take n.toNat)):=by rw [zDs R [[8,g,i,n]] (.slice g.toNat i.toNat n.toNat) g.toNat (decide (SLICE < n.toNat)) (fun _=>writes (((w.gen g.toNat).drop i.toNat).take n.toNat)) rfl rfl rfl,R.gen,<- List.map_drop,<- List.map_take];unfold zPU writes;have hb:∀ x∈((zg rl row g.toNat).drop i.toNat).take n.toNat,qS x:=fun x hx=>zCI R.rowOk.2 (fun x hx=>(R.rlOk x hx).2.2) g.toNat x (List.mem_of_mem_drop (List.mem_of_mem_take hx));simp only [zPR hb,List.length_map];rfl
end
structure Pt where
 x0:Int
 x1:Int
 x2:Int
 x3:Int
deriving DecidableEq
theorem Pt.ext' {a b:Pt}(h0:a.x0=b.x0)(h1:a.x1=b.x1)(h2:a.x2=b.x2)(h3:a.x3=b.x3):a=b:=by cases a;cases b;simp_all
def Pt.l (a:Pt):List Int:=[a.x0,a.x1,a.x2,a.x3]
def Pt.add (a b:Pt):Pt:=⟨a.x0+b.x0,a.x1+b.x1,a.x2+b.x2,a.x3+b.x3⟩
def Pt.mul (a:Pt)(n:Int):Pt:=⟨a.x0 * n,a.x1 * n,a.x2 * n,a.x3 * n⟩
def Pt.sub (a b:Pt):Pt:=a.add (b.mul (-1))
def Pt.zero:Pt:=⟨0,0,0,0⟩
def Pt.one:Pt:=⟨1,0,0,0⟩
def zF6 (m:Nat):Pt:=if m=3 then ⟨-1,-1,0,0⟩ else if m=4 then ⟨-1,0,0,0⟩ else if m=5 then ⟨-1,-1,-1,-1⟩ else if m=6 then ⟨-1,1,0,0⟩ else if m=8 then ⟨-1,0,0,0⟩ else if m=10 then ⟨-1,1,-1,1⟩ else ⟨-1,0,1,0⟩
def Pt.z (m:Nat)(a:Pt):Pt:=if powers m=2 then Pt.add ⟨0,a.x0,0,0⟩ ((zF6 m).mul a.x1) else Pt.add ⟨0,a.x0,a.x1,a.x2⟩ ((zF6 m).mul a.x3)
def zk (m:Nat)(a:Pt):Nat->Pt
 | 0=>a
 | k+1=>(zk m a k).z m
def pw (m k:Nat):Pt:=zk m Pt.one k
def Jb (m:Nat)(a b:Pt):Pt:=(((Pt.zero.add (b.mul a.x0)).add ((b.z m).mul a.x1)).add (((b.z m).z m).mul a.x2)).add ((((b.z m).z m).z m).mul a.x3)
def zBM (m:Nat)(a:Pt):Pt:=(((Pt.zero.add ((pw m 0).mul a.x0)).add ((pw m (m - 1)).mul a.x1)).add ((pw m (m - 2)).mul a.x2)).add ((pw m (m - 3)).mul a.x3)
def jU (m:Nat)(a b:Pt):Pt:=(Jb m (zBM m a) b).sub (Jb m a (zBM m b))
def Fl (m:Nat)(a:Pt):Prop:=powers m=2->a.x2=0/\a.x3=0
theorem qN {m:Nat}(h:m∈ROUNDS):m=3\/m=4\/m=5\/m=6\/m=8\/m=10\/m=12:=by simpa [ROUNDS] using h
theorem zSY {m:Nat}(h:m∈ROUNDS):3<=m:=by rcases qN h with rfl | rfl | rfl | rfl | rfl | rfl | rfl <;> decide
theorem zIQ (a b:Pt):Trail.plus a.l b.l=(a.add b).l:=rfl
theorem zU7 (a b:Pt):Trail.less a.l b.l=(a.sub b).l:=by simp [Trail.less,Pt.l,Pt.sub,Pt.add,Pt.mul,List.range,List.range.loop];omega
theorem zHr (n:Int)(a:Pt):Trail.scaled n a.l=(a.mul n).l:=by simp [Trail.scaled,Pt.l,Pt.mul,List.range,List.range.loop,Int.mul_comm]
theorem zHs:Trail.origin=Pt.zero.l:=rfl
theorem zU8:Trail.unit=Pt.one.l:=rfl
theorem n2:∀ m∈ROUNDS,powers m=2->(zF6 m).x2=0/\(zF6 m).x3=0:=by decide
theorem zZX:∀ m∈ROUNDS,Trail.next m=(zF6 m).l:=by decide
theorem zUD {m:Nat}(h:m∈ROUNDS)(a:Pt):Trail.onward m a.l=(a.z m).l:=by
 have pm:powers m=2\/powers m=4:=by unfold powers;split <;> simp
 have hn:=n2 m h;unfold Trail.onward Pt.z;rw [zZX m h];generalize zF6 m=n at *;rcases pm with e | e
 . obtain ⟨u,v⟩:=hn e;rw [e];simp [Pt.l,Pt.add,Pt.mul,List.range,List.range.loop,u,v,Int.mul_comm]
 . rw [e];simp [Pt.l,Pt.add,Pt.mul,List.range,List.range.loop,Int.mul_comm]
theorem zEs {m:Nat}(h:m∈ROUNDS)(a:Pt):∀ k,Trail.turned m a.l k=(zk m a k).l
 | 0=>rfl
 | k+1=>by show Trail.onward m (Trail.turned m a.l k)=_;rw [zEs h a k,zUD h];rfl
theorem zV5 (m:Nat)(a b:Pt):(a.add b).z m=(a.z m).add (b.z m):=by unfold Pt.z;split <;> (apply Pt.ext' <;> simp only [Pt.add,Pt.mul] <;> grind)
theorem zXm (m:Nat)(a:Pt)(n:Int):(a.mul n).z m=(a.z m).mul n:=by unfold Pt.z;split <;> (apply Pt.ext' <;> simp only [Pt.add,Pt.mul] <;> grind)
theorem Fl.add {m:Nat}{a b:Pt}(h:Fl m a)(k:Fl m b):Fl m (a.add b):=fun e=>by obtain ⟨h1,h2⟩:=h e;obtain ⟨k1,k2⟩:=k e;simp [Pt.add, *]
theorem Fl.mul {m:Nat}{a:Pt}(h:Fl m a)(n:Int):Fl m (a.mul n):=fun e=>by obtain ⟨h1,h2⟩:=h e;simp [Pt.mul, *]
theorem Fl.zero {m:Nat}:Fl m Pt.zero:=fun _=>⟨rfl,rfl⟩
theorem Fl.one {m:Nat}:Fl m Pt.one:=fun _=>⟨rfl,rfl⟩
theorem Fl.z {m:Nat}(h:m∈ROUNDS)(a:Pt):Fl m (a.z m):=by rcases qN h with rfl | rfl | rfl | rfl | rfl | rfl | rfl <;> simp [Fl,Pt.z,zF6,Trail.powers,Pt.add,Pt.mul]
theorem Fl.zk {m:Nat}(h:m∈ROUNDS){a:Pt}(ha:Fl m a):∀ k,Fl m (zk m a k)
 | 0=>ha
 | _+1=>Fl.z h _
theorem Fl.pw {m:Nat}(h:m∈ROUNDS)(k:Nat):Fl m (pw m k):=Fl.zk h Fl.one k
theorem zXn {m:Nat}(k:Nat):pw m (k+1)=(pw m k).z m:=rfl
theorem zSZ {m:Nat}(h:m∈ROUNDS){a b:Pt}(hb:Fl m b):Trail.times m a.l b.l=(Jb m b a).l:=by
 have e:∀ j,Trail.turned m a.l j=(zk m a j).l:=zEs h a;unfold Trail.times;simp only [e];rcases qN h with rfl | rfl | rfl | rfl | rfl | rfl | rfl <;> (first | (have hb':=hb rfl) | (have hb' : True:=trivial)) <;>
 simp only [Trail.powers,List.range,List.range.loop,List.foldl,zHr,zIQ,zHs,Jb,zk] <;>
 (simp (config:={decide:=true}) only [if_true,if_false,List.range,List.range.loop,List.foldl,zHr,zIQ,zHs,zk]) <;>
 (congr 1 <;> (try rfl)) <;>
 (apply Pt.ext' <;> simp [Pt.add,Pt.mul,Pt.l,Pt.zero,hb'] )
theorem zSa {m:Nat}(h:m∈ROUNDS){a:Pt}(ha:Fl m a):Trail.aside m a.l=(zBM m a).l:=by
 have e:∀ j,Trail.turned m Trail.unit j=(pw m j).l:=fun j=>by rw [zU8,zEs h];rfl
 unfold Trail.aside;simp only [e];rcases qN h with rfl | rfl | rfl | rfl | rfl | rfl | rfl <;> (first | (have hb':=ha rfl) | (have hb' : True:=trivial)) <;>
 simp only [Trail.powers,List.range,List.range.loop,List.foldl,zHr,zIQ,zHs,zBM] <;>
 (simp (config:={decide:=true}) only [if_true,if_false,List.range,List.range.loop,List.foldl,zHr,zIQ,zHs]) <;>
 (congr 1 <;> (try rfl)) <;>
 (apply Pt.ext' <;> simp [Pt.add,Pt.mul,Pt.l,Pt.zero,hb'] )
theorem zGp {m:Nat}(h:m∈ROUNDS){a b:Pt}(ha:Fl m a)(hb:Fl m b):Jb m a b=Jb m b a:=by
 have hn:=n2 m h;unfold Jb Pt.z;unfold Fl at ha hb;generalize zF6 m=n at *;by_cases e:powers m=2
 . obtain ⟨a2,a3⟩:=ha e;obtain ⟨b2,b3⟩:=hb e;obtain ⟨e2,e3⟩:=hn e;simp only [if_pos e,Pt.add,Pt.mul,Pt.zero,a2,a3,b2,b3,e2,e3,Int.mul_zero,Int.zero_mul,Int.add_zero,Int.zero_add];apply Pt.ext' <;> simp only <;> grind
 . simp only [if_neg e,Pt.add,Pt.mul,Pt.zero,Int.zero_add];apply Pt.ext' <;> simp only <;> grind
theorem zF7 {m:Nat}(h:m∈ROUNDS)(a:Pt):Fl m (zBM m a):=(((Fl.zero.add ((Fl.pw h _).mul _)).add ((Fl.pw h _).mul _)).add ((Fl.pw h _).mul _)).add ((Fl.pw h _).mul _)
theorem zV6 {m:Nat}(h:m∈ROUNDS){a b:Pt}(ha:Fl m a)(hb:Fl m b) : Trail.less (Trail.times m (Trail.aside m a.l) b.l) (Trail.times m a.l (Trail.aside m b.l))=(jU m a b).l:=by rw [zSa h ha,zSa h hb,zSZ h hb,zSZ h (zF7 h b),zU7,zGp h hb (zF7 h a),zGp h (zF7 h b) ha];rfl
theorem zN0 (m:Nat)(a b c:Pt):Jb m (a.add b) c=(Jb m a c).add (Jb m b c):=by apply Pt.ext' <;> simp only [Jb,Pt.add,Pt.mul,Pt.zero] <;> grind
theorem zN1 (m:Nat)(a b c:Pt):Jb m a (b.add c)=(Jb m a b).add (Jb m a c):=by simp only [Jb,zV5];apply Pt.ext' <;> simp only [Pt.add,Pt.mul,Pt.zero] <;> grind
theorem zMu (m:Nat)(a b:Pt):zBM m (a.add b)=(zBM m a).add (zBM m b):=by apply Pt.ext' <;> simp only [zBM,Pt.add,Pt.mul,Pt.zero] <;> grind
theorem zSb (m:Nat)(a b p:Pt):jU m (a.add b) p=(jU m a p).add (jU m b p):=by simp only [jU,zMu,zN0,Pt.sub];apply Pt.ext' <;> simp only [Pt.add,Pt.mul] <;> grind
theorem zQa {m:Nat}(h:m∈ROUNDS){a:Pt}(ha:Fl m a)(p:Pt):jU m a (a.add p)=jU m a p:=by simp only [jU,zMu,zN1,Pt.sub];have e:=zGp h (zF7 h a) ha;rw [e];apply Pt.ext' <;> simp only [Pt.add,Pt.mul] <;> grind
theorem zQb (m:Nat)(p:Pt):jU m Pt.zero p=Pt.zero:=by apply Pt.ext' <;> simp [jU,zBM,Jb,Pt.add,Pt.mul,Pt.zero,Pt.sub]
def zo (a w:Pt):Int:=a.x0 * w.x0+a.x1 * w.x1+a.x2 * w.x2+a.x3 * w.x3
def WH (m:Nat):Pt:=if m=3 then ⟨2,-1,0,0⟩ else if m=4 then ⟨1,0,0,0⟩ else if m=5 then ⟨4,-1,-1,-1⟩ else if m=6 then ⟨2,1,0,0⟩ else if m=8 then ⟨2,0,0,0⟩ else if m=10 then ⟨4,1,-1,1⟩ else ⟨2,0,1,0⟩
def RT (m:Nat):Pt:=if m=3 then ⟨0,0,0,0⟩ else if m=4 then ⟨0,0,0,0⟩ else if m=5 then ⟨0,1,-1,-1⟩ else if m=6 then ⟨0,0,0,0⟩ else if m=8 then ⟨0,1,0,-1⟩ else if m=10 then ⟨0,1,1,-1⟩ else ⟨0,1,0,0⟩
def SQ (m:Nat):Int:=if m=3 then 1 else if m=4 then 1 else if m=5 then 5 else if m=6 then 1 else if m=8 then 2 else if m=10 then 5 else 3
def bk (m d k:Nat):Nat:=(((k:Int) - (d:Int)) % (m:Int)).toNat
def zU9 (m d:Nat)(w:Pt):Pt:=⟨zo (pw m (bk m d 0)) w,zo (pw m (bk m d 1)) w,zo (pw m (bk m d 2)) w,zo (pw m (bk m d 3)) w⟩
def zMv (p q s:Int):Bool:=decide (p * p.natAbs+q * q.natAbs * s > 0)
def zDc (m d:Nat)(a b:Pt):Bool:=zMv (zo (a.sub b) (zU9 m d (WH m))) (zo (a.sub b) (zU9 m d (RT m))) (SQ m)
theorem p01:∀ m∈ROUNDS,pw m 0=⟨1,0,0,0⟩/\pw m 1=⟨0,1,0,0⟩/\(powers m≠2->pw m 2=⟨0,0,1,0⟩/\pw m 3=⟨0,0,0,1⟩):=by decide
theorem zYm {m:Nat}(h:m∈ROUNDS){a:Pt}(ha:Fl m a):a=(((pw m 0).mul a.x0).add ((pw m 1).mul a.x1)).add (((pw m 2).mul a.x2).add ((pw m 3).mul a.x3)):=by
 obtain ⟨e0,e1,e2⟩:=p01 m h;rw [e0,e1];by_cases c:powers m=2
 . obtain ⟨a2,a3⟩:=ha c;apply Pt.ext' <;> simp [Pt.add,Pt.mul,a2,a3]
 . obtain ⟨q2,q3⟩:=e2 c;rw [q2,q3];apply Pt.ext' <;> simp [Pt.add,Pt.mul]
theorem zXo {m:Nat}(h:m∈ROUNDS){a:Pt}(ha:Fl m a):∀ e,zk m a e=(((pw m e).mul a.x0).add ((pw m (e+1)).mul a.x1)).add (((pw m (e+2)).mul a.x2).add ((pw m (e+3)).mul a.x3))
 | 0=>zYm h ha
 | e+1=>by show (zk m a e).z m=_;rw [zXo h ha e];simp only [zV5,zXm];rfl
theorem zVA {m:Nat}(h:m∈ROUNDS):∀ k,pw m (k+m)=pw m k
 | 0=>by rcases qN h with rfl | rfl | rfl | rfl | rfl | rfl | rfl <;> decide
 | k+1=>by rw [show k+1+m=(k+m)+1 by omega,zXn,zVA h k,<- zXn]
theorem zVB {m:Nat}(h:m∈ROUNDS)(k:Nat):pw m k=pw m (k % m):=by
 have hm:0 < m:=by rcases qN h with rfl | rfl | rfl | rfl | rfl | rfl | rfl <;> decide
 induction k using Nat.strongRecOn with
 | ind k ih =>
   by_cases c:k < m
   . rw [Nat.mod_eq_of_lt c]
   . have e:k=(k - m)+m:=(by omega);rw [Nat.mod_eq_sub_mod (by omega),<- ih (k - m) (by omega)];have:=zVA h (k - m);rw [<- e] at this;exact this
theorem zUE {m:Nat}(h:m∈ROUNDS)(d k:Nat):pw m (bk m d k)=pw m ((m - d % m) % m+k):=by
 rw [zVB h ((m - d % m) % m+k)];congr 1;have hm:0 < m:=by rcases qN h with rfl | rfl | rfl | rfl | rfl | rfl | rfl <;> decide
 unfold bk;have h1:(((m - d % m) % m+k) % m)=((m - d % m)+k) % m:=by rw [Nat.mod_add_mod]
 rw [h1];have h2:d % m < m:=Nat.mod_lt _ hm;have h3:((k:Int) - (d:Int)) % (m:Int)=(((m - d % m)+k:Nat):Int) % (m:Int):=by
   have e1:(d:Int)=(m:Int) * ((d / m:Nat):Int)+((d % m:Nat):Int):=(by exact_mod_cast (Nat.div_add_mod d m).symm);have e2:(((m - d % m)+k:Nat):Int)=(k:Int) - (d:Int)+(m:Int) * (1+((d / m:Nat):Int)):=by have e3:((m - d % m:Nat):Int)=(m:Int) - ((d % m:Nat):Int):=(by omega);rw [Int.natCast_add,e3,Int.mul_add,Int.mul_one];omega
   rw [e2,Int.add_mul_emod_self_left]
 rw [h3,<- Int.natCast_emod,Int.toNat_natCast]
theorem zN2 (a b w:Pt):zo (a.add b) w=zo a w+zo b w:=by simp only [zo,Pt.add];grind
theorem zN3 (a w:Pt)(n:Int):zo (a.mul n) w=zo a w * n:=by simp only [zo,Pt.mul];grind
theorem zHK {m:Nat}(h:m∈ROUNDS){a:Pt}(ha:Fl m a)(d:Nat)(w:Pt):zo (zk m a ((m - d % m) % m)) w=zo a (zU9 m d w):=by
 rw [zXo h ha];simp only [zN2,zN3];show _=a.x0 * zo (pw m (bk m d 0)) w+a.x1 * zo (pw m (bk m d 1)) w+a.x2 * zo (pw m (bk m d 2)) w+a.x3 * zo (pw m (bk m d 3)) w;rw [zUE h,zUE h,zUE h,zUE h]
 grind
theorem zXp {m:Nat}(h:m∈ROUNDS)(a:Pt):Trail.real m a.l=(zo a (WH m),zo a (RT m)):=by rcases qN h with rfl | rfl | rfl | rfl | rfl | rfl | rfl <;> simp [Trail.real,zo,WH,RT,Pt.l] <;> omega
theorem zVC (m:Nat)(a b:Pt):∀ k,zk m (a.add b) k=(zk m a k).add (zk m b k)
 | 0=>rfl
 | k+1=>by show (zk m (a.add b) k).z m=_;rw [zVC m a b k,zV5];rfl
theorem zVD (m:Nat)(a:Pt)(n:Int):∀ k,zk m (a.mul n) k=(zk m a k).mul n
 | 0=>rfl
 | k+1=>by show (zk m (a.mul n) k).z m=_;rw [zVD m a n k,zXm];rfl
theorem zXq (m:Nat)(a b:Pt)(k:Nat):(zk m a k).sub (zk m b k)=zk m (a.sub b) k:=by unfold Pt.sub;rw [zVC,zVD]
theorem sq_pos {x:Int}(h:x≠0):0 < x * x:=by
 rcases Int.lt_or_gt_of_ne h with h | h
 . exact Int.mul_pos_of_neg_of_neg h h
 . exact Int.mul_pos h h
theorem zEt {x:Int}(h:0<=x):x * x.natAbs=x * x:=by rw [show ((x.natAbs:Nat):Int)=x by omega]
theorem zEu {x:Int}(h:x<=0):x * x.natAbs = -(x * x):=by rw [show ((x.natAbs:Nat):Int) = -x by omega,Int.mul_neg]
theorem zPV {k:Int}(hk:0 < k)(x y:Int):Trail.above0 k x y=zMv x y k:=by
 unfold Trail.above0 zMv;have e:∀ z:Int,0 < z->0 < z * k:=fun z hz=>Int.mul_pos hz hk;have c1:k * (y * y)=y * y * k:=Int.mul_comm _ _;rw [Bool.eq_iff_iff];simp only [Bool.or_eq_true,Bool.and_eq_true,decide_eq_true_eq,c1];rcases Int.lt_trichotomy x 0 with hx | hx | hx
 . have px:=sq_pos (x:=x) (by omega);rcases Int.lt_trichotomy y 0 with hy | hy | hy
   . have py:=e _ (sq_pos (x:=y) (by omega));rw [zEu (by omega:x<=0),zEu (by omega:y<=0),Int.neg_mul];omega
   . subst hy;rw [zEu (by omega:x<=0)];simp;omega
   . have py:=e _ (sq_pos (x:=y) (by omega));rw [zEu (by omega:x<=0),zEt (by omega:0<=y)];omega
 . subst hx;rcases Int.lt_trichotomy y 0 with hy | hy | hy
   . have py:=e _ (sq_pos (x:=y) (by omega));rw [zEu (by omega:y<=0),Int.neg_mul];simp;omega
   . subst hy;simp
   . have py:=e _ (sq_pos (x:=y) (by omega));rw [zEt (by omega:0<=y)];simp;omega
 . have px:=sq_pos (x:=x) (by omega);rcases Int.lt_trichotomy y 0 with hy | hy | hy
   . have py:=e _ (sq_pos (x:=y) (by omega));rw [zEt (by omega:0<=x),zEu (by omega:y<=0),Int.neg_mul];omega
   . subst hy;rw [zEt (by omega:0<=x)];simp;omega
   . have py:=e _ (sq_pos (x:=y) (by omega));rw [zEt (by omega:0<=x),zEt (by omega:0<=y)];omega
theorem zSc {m:Nat}(h:m∈ROUNDS){a b:Pt}(ha:Fl m a)(hb:Fl m b)(d:Nat):Trail.ahead m (Trail.back m d a.l) (Trail.back m d b.l)=zDc m d a b:=by
 have hs:Fl m (a.sub b):=Fl.add ha (hb.mul _);unfold Trail.ahead Trail.back zDc;rw [zEs h,zEs h,zU7,zXq,zXp h,zHK h hs,zHK h hs];rcases qN h with rfl | rfl | rfl | rfl | rfl | rfl | rfl
 all_goals first
   | exact zPV (by decide) _ _
   | (rw [zPV (by decide)]
      simp [zMv,zo,zU9,RT])
def j9 (b:Int):Bool:=decide (65<=b) && decide (b<=90)
theorem zXr:∀ n:Fin 256,j9 (n.val:Int)=Trail.isCapital (UInt8.ofNat n.val):=by decide +kernel
theorem zVE {x:Int}(h:qS x):Trail.isCapital (u8 x)=j9 x:=by
 have e:=zXr ⟨x.toNat,by omega⟩;have e2:((x.toNat:Nat):Int)=x:=by omega
 simp only [e2] at e;exact e.symm
structure QE where
 pos:Pt
 turn:Nat
 kept:List (Pt×Nat)
 drawn:Nat
 letters:Nat
def QE.to (p:QE):Trail.Pen:=⟨p.pos.l,p.turn,p.kept.map fun x=>(x.1.l,x.2),p.drawn,p.letters⟩
def ZG:QE:=⟨Pt.zero,0,[],0,0⟩
def zPW (m:Nat)(c:Int):Nat:=if c=43 then 1 else if c=45 then m - 1 else m / 2
def QE.sign (m:Nat)(p:QE)(c:Int):QE :=
 if isLet c=true then (if j9 c=true then ⟨p.pos.add (pw m p.turn),p.turn,p.kept,p.drawn+1,p.letters+1⟩ else ⟨p.pos,p.turn,p.kept,p.drawn,p.letters+1⟩)
 else if c=62 then ⟨p.pos.add (pw m p.turn),p.turn,p.kept,p.drawn,p.letters⟩
 else if c=91 then ⟨p.pos,p.turn,(p.pos,p.turn) :: p.kept,p.drawn,p.letters⟩
 else if c=93 then (match p.kept with
   | x :: r=>⟨x.1,x.2,r,p.drawn,p.letters⟩
   | []=>p)
 else ⟨p.pos,(p.turn+zPW m c) % m,p.kept,p.drawn,p.letters⟩
theorem zLU {c:Int}(h:j9 c=true):isLet c=true:=by unfold isLet;unfold j9 at h;rw [h];rfl
theorem zMw {c:Int}(h:jk c=true)(h1:¬ isLet c=true)(h2:c≠62)(h3:c≠91)(h4:c≠93):c=43\/c=45\/c=124:=by unfold jk at h;simp only [Bool.or_eq_true,h1,false_or,decide_eq_true_eq] at h;simp [h2,h3,h4] at h;exact h
theorem zN4 {m:Nat}(hm:m∈ROUNDS)(p:QE){c:Int}(hc:qS c)(hs:jk c=true):(p.sign m c).to=p.to.sign m (u8 c):=by
 unfold QE.sign Trail.Pen.sign;rw [zR8 hc,zVE hc];have e0:Trail.turned m Trail.unit p.to.turn=(pw m p.turn).l:=by rw [zU8,zEs hm];rfl
 have t62:(u8 c=62)↔c=62:=zHZ hc 62 (by decide);have t43:(u8 c=43)↔c=43:=zHZ hc 43 (by decide);have t45:(u8 c=45)↔c=45:=zHZ hc 45 (by decide);by_cases h1:isLet c=true
 . by_cases h2:j9 c=true
   . simp only [h1,h2,if_true,e0];show QE.to _=_;simp only [QE.to,zIQ]
   . simp only [h1,h2,if_true,if_false];rfl
 . have h2:¬ j9 c=true:=fun z=>h1 (zLU z);by_cases h3:c=62
   . rw [if_neg h1,if_pos h3,if_neg h2,if_neg h1,if_pos (t62.mpr h3),e0];simp only [QE.to,zIQ]
   . by_cases h5:c=91
     . subst h5;simp only [h1,h2,if_false];rfl
     . by_cases h6:c=93
       . subst h6;simp only [h1,h2,if_false];cases p with
         | mk pos turn kept drawn letters=>cases kept <;> rfl
       . rcases zMw hs h1 h3 h5 h6 with rfl | rfl | rfl <;> simp only [h1,h2,if_false] <;> rfl
def zT (m:Nat)(s:List Int):QE:=s.foldl (fun p c=>p.sign m c) ZG
theorem zCi (m:Nat)(s:List Int)(c:Int):zT m (s ++ [c])=(zT m s).sign m c:=by unfold zT;rw [List.foldl_append];rfl
abbrev Sgs (s:List Int):Prop:=∀ c∈s,qS c/\jk c=true
theorem zSd {m:Nat}(hm:m∈ROUNDS):∀ (s:List Int)(p:QE),Sgs s->(s.foldl (fun p c=>p.sign m c) p).to=(s.map u8).foldl (fun (p:Pen)(c:UInt8)=>p.sign m c) p.to
 | [],_,_=>rfl
 | c :: s,p,h=>by rw [List.foldl_cons,List.map_cons,List.foldl_cons,zSd hm s _ fun x hx=>h x (List.mem_cons_of_mem _ hx),zN4 hm p (h c List.mem_cons_self).1 (h c List.mem_cons_self).2]
theorem zUF {m:Nat}(hm:m∈ROUNDS){s:List Int}(h:Sgs s):Trail.along m (s.map u8)=(zT m s).to:=(zSd hm s ZG h).symm
def zBN (m:Nat):QE->Nat->List Int->List (Nat×QE×Pt)
 | _,_,[]=>[]
 | p,i,c :: s=>if j9 c=true then (i,p,(p.sign m c).pos) :: zBN m (p.sign m c) (i+1) s else zBN m (p.sign m c) (i+1) s
theorem jr (m:Nat)(p:QE)(i:Nat)(c:Int)(s:List Int):zBN m p i (c :: s)=if j9 c=true then (i,p,(p.sign m c).pos) :: zBN m (p.sign m c) (i+1) s else zBN m (p.sign m c) (i+1) s:=rfl
def zY (m:Nat)(s:List Int):List (Nat×QE×Pt):=zBN m ZG 0 s
def st3 (x:Nat×QE×Pt):Nat×(Pen×Point):=(x.1,(x.2.1.to,x.2.2.l))
theorem zPX {m:Nat}(hm:m∈ROUNDS):∀ (s:List Int)(p:QE)(i:Nat),Sgs s-> ((s.map u8).zip ((states m p.to (s.map u8)).zipIdx i)).filterMap (fun (x:UInt8×(Pen×Nat))=>if isCapital x.1=true then some (x.2.2,(x.2.1,(x.2.1.sign m x.1).at_)) else none)=(zBN m p i s).map st3
 | [],_,_,_=>rfl
 | c :: s,p,i,h=>by
   obtain ⟨hb,hs⟩:=h c List.mem_cons_self;have ih:=zPX hm s (p.sign m c) (i+1) fun x hx=>h x (List.mem_cons_of_mem _ hx);rw [List.map_cons];show List.filterMap _ (List.zip (u8 c :: s.map u8) (List.zipIdx (p.to :: states m (p.to.sign m (u8 c)) (s.map u8)) i))=_;rw [List.zipIdx_cons,List.zip_cons_cons,List.filterMap_cons,<- zN4 hm p hb hs,ih,zVE hb];rw [jr];by_cases hc:j9 c=true
   . simp only [hc,if_true,List.map_cons];rfl
   . simp only [hc,if_false,Bool.false_eq_true]
theorem zIR (m:Nat)(c:Int):∀ (s:List Int)(p:QE)(i:Nat),zBN m p i (s ++ [c])=zBN m p i s ++ (if j9 c=true then [(i+s.length,s.foldl (fun p c=>p.sign m c) p,((s.foldl (fun p c=>p.sign m c) p).sign m c).pos)] else [])
 | [],p,i=>by show zBN m p i [c]=_;rw [jr];split <;> rfl
 | d :: s,p,i=>by rw [List.cons_append,jr,jr,zIR m c s];rw [List.foldl_cons,List.length_cons,show i+1+s.length=i+(s.length+1) by omega];by_cases hd:j9 d=true <;> simp only [hd,if_true,if_false,List.cons_append,Bool.false_eq_true]
theorem zAl (m:Nat)(s:List Int)(c:Int):zY m (s ++ [c])=zY m s ++ (if j9 c=true then [(s.length,zT m s,(zT m (s ++ [c])).pos)] else []):=by rw [zCi];unfold zY;rw [zIR,Nat.zero_add];rfl
section
variable {w:World}{m:Int}{row:List Int}{rl:RL}
theorem zMx (m:Nat):∀ (s:List Int)(p:QE)(i:Nat),p.drawn+(zBN m p i s).length=(s.foldl (fun p c=>p.sign m c) p).drawn
 | [],_,_=>rfl
 | c :: s,p,i=>by
   rw [List.foldl_cons,jr];have hd:(p.sign m c).drawn=p.drawn+(if j9 c=true then 1 else 0):=by
     unfold QE.sign;by_cases h1:isLet c=true
     . by_cases h2:j9 c=true <;> simp [h1,h2]
     . have h2:¬ j9 c=true:=fun z=>h1 (zLU z);simp only [h1,h2,if_false,Bool.false_eq_true];split
       . rfl
       . split
         . rfl
         . split
           . split <;> rfl
           . rfl
   have ih:=zMx m s (p.sign m c) (i+1);by_cases hc:j9 c=true
   . simp only [hc,if_true,List.length_cons] at *;omega
   . simp only [hc,if_false,Bool.false_eq_true] at *;omega
theorem zSe (m:Nat)(s:List Int):(zT m s).drawn=(zY m s).length:=by have:=zMx m s ZG 0;unfold zT zY;rw [<- this];show 0+_=_;omega
def zV7 (m d:Nat)(b:Nat×Point)(x:Pen×Nat):Nat×Point:=if ahead m (back m d x.1.at_) (back m d b.2)=true then (x.2,x.1.at_) else b
def zVF (m d:Nat):QE->Nat->Nat×Pt->List Int->Nat×Pt
 | _,_,b,[]=>b
 | p,i,b,c :: s=>zVF m d (p.sign m c) (i+1) (if zDc m d (p.sign m c).pos b.2=true then (i+1,(p.sign m c).pos) else b) s
def zJd (m d:Nat)(s:List Int):Nat×Pt:=zVF m d ZG 0 (0,Pt.zero) s
theorem zMy (m d:Nat)(c:Int):∀ (s:List Int)(p:QE)(i:Nat)(b:Nat×Pt),zVF m d p i b (s ++ [c]) = if zDc m d ((s.foldl (fun p c=>p.sign m c) p).sign m c).pos (zVF m d p i b s).2=true then (i+s.length+1,((s.foldl (fun p c=>p.sign m c) p).sign m c).pos) else zVF m d p i b s
 | [],p,i,b=>rfl
 | e :: s,p,i,b=>by rw [List.cons_append];show zVF m d (p.sign m e) (i+1) _ (s ++ [c])=_;rw [zMy m d c s,show i+1+s.length+1=i+(e :: s).length+1 by rw [List.length_cons];omega];rfl
theorem zMz (m d:Nat)(s:List Int)(c:Int):zJd m d (s ++ [c])=if zDc m d (zT m (s ++ [c])).pos (zJd m d s).2=true then (s.length+1,(zT m (s ++ [c])).pos) else zJd m d s:=by rw [zCi];unfold zJd;rw [zMy,Nat.zero_add];rfl
def Bd (N:Int)(a:Pt):Prop:=(-N<=a.x0/\a.x0<=N)/\(-N<=a.x1/\a.x1<=N)/\(-N<=a.x2/\a.x2<=N)/\(-N<=a.x3/\a.x3<=N)
theorem Bd.mono {N M:Int}{a:Pt}(h:Bd N a)(l:N<=M):Bd M a:=by unfold Bd at *;omega
theorem Bd.add {N M:Int}{a b:Pt}(h:Bd N a)(k:Bd M b):Bd (N+M) (a.add b):=by unfold Bd Pt.add at *;simp only;omega
theorem zPY {N:Int}{a:Pt}:Bd N a↔(decide (-N<=a.x0) && decide (a.x0<=N) && decide (-N<=a.x1) && decide (a.x1<=N) && decide (-N<=a.x2) && decide (a.x2<=N) && decide (-N<=a.x3) && decide (a.x3<=N))=true:=by unfold Bd;simp;omega
theorem zSf {m:Nat}(hm:m∈ROUNDS)(k:Nat):Bd 1 (pw m k):=by
 rw [zVB hm];have h0:0 < m:=by rcases qN hm with rfl | rfl | rfl | rfl | rfl | rfl | rfl <;> decide
 have h1:k % m < m:=Nat.mod_lt _ h0;generalize k % m=j at h1;rw [zPY];rcases qN hm with rfl | rfl | rfl | rfl | rfl | rfl | rfl <;> (revert j;decide)
structure zDf (m:Nat)(N:Int)(p:QE):Prop where
 fl:Fl m p.pos
 bd:Bd N p.pos
 tn:p.turn < m
 kp:∀ x∈p.kept,Fl m x.1/\Bd N x.1/\x.2 < m
theorem zDf.begin {m:Nat}(hm:m∈ROUNDS):zDf m 0 ZG:=⟨Fl.zero,by unfold Bd ZG Pt.zero;simp,by
 show 0 < m;rcases qN hm with rfl | rfl | rfl | rfl | rfl | rfl | rfl <;> decide,fun x hx=>by cases hx⟩
theorem zDf.sign {m:Nat}(hm:m∈ROUNDS){N:Int}{p:QE}(h:zDf m N p)(c:Int):zDf m (N+1) (p.sign m c):=by
 have h0:0 < m:=by rcases qN hm with rfl | rfl | rfl | rfl | rfl | rfl | rfl <;> decide
 have hk:∀ x∈p.kept,Fl m x.1/\Bd (N+1) x.1/\x.2 < m:=fun x hx=>⟨(h.kp x hx).1,(h.kp x hx).2.1.mono (by omega),(h.kp x hx).2.2⟩;have hb:=h.bd.mono (show N<=N+1 by omega);unfold QE.sign;split
 . split
   . exact ⟨h.fl.add (Fl.pw hm _),h.bd.add (zSf hm _),h.tn,hk⟩
   . exact ⟨h.fl,hb,h.tn,hk⟩
 . split
   . exact ⟨h.fl.add (Fl.pw hm _),h.bd.add (zSf hm _),h.tn,hk⟩
   . split
     . refine ⟨h.fl,hb,h.tn,fun x hx=>?_⟩;rcases List.mem_cons.mp hx with rfl | hx
       . exact ⟨h.fl,hb,h.tn⟩
       . exact hk x hx
     . split
       . split
         . rename_i x r e;have:=hk x (by rw [e];exact List.mem_cons_self);exact ⟨this.1,this.2.1,this.2.2,fun y hy=>hk y (by rw [e];exact List.mem_cons_of_mem _ hy)⟩
         . exact ⟨h.fl,hb,h.tn,hk⟩
       . exact ⟨h.fl,hb,Nat.mod_lt _ h0,hk⟩
theorem zDf.fold {m:Nat}(hm:m∈ROUNDS):∀ (s:List Int){N:Int}{p:QE},zDf m N p->zDf m (N+s.length) (s.foldl (fun p c=>p.sign m c) p)
 | [],N,p,h=>by simpa using h
 | c :: s,N,p,h=>by have:=zDf.fold hm s (h.sign hm c);rw [List.length_cons,show N+((s.length+1:Nat):Int)=N+1+(s.length:Int) by omega];exact this
theorem zDt {m:Nat}(hm:m∈ROUNDS)(s:List Int):zDf m s.length (zT m s):=by have:=zDf.fold hm s (zDf.begin hm);rw [Int.zero_add] at this;exact this
theorem zM0 {m:Nat}(hm:m∈ROUNDS):∀ (s:List Int)(N:Int)(p:QE)(i:Nat),zDf m N p->∀ x∈zBN m p i s,Fl m x.2.1.pos/\x.2.1.turn < m/\x.2.2=x.2.1.pos.add (pw m x.2.1.turn)
 | [],_,_,_,_,x,hx=>by cases hx
 | c :: s,N,p,i,h,x,hx=>by
   rw [jr] at hx;have ih:=zM0 hm s (N+1) (p.sign m c) (i+1) (h.sign hm c);split at hx
   . rename_i hc;rcases List.mem_cons.mp hx with rfl | hx
     . refine ⟨h.fl,h.tn,?_⟩;show (p.sign m c).pos=_;unfold QE.sign;rw [if_pos (zLU hc),if_pos hc]
     . exact ih x hx
   . exact ih x hx
theorem zSg {m:Nat}(hm:m∈ROUNDS)(d:Nat):∀ (s:List Int)(p:QE)(i:Nat)(b:Nat×Pt)(N:Int),Sgs s->zDf m N p->Fl m b.2-> ((states m p.to (s.map u8)).zipIdx i).foldl (zV7 m d) (b.1,b.2.l)=(fun z=>(z.1,z.2.l)) (zVF m d p i (if zDc m d p.pos b.2=true then (i,p.pos) else b) s)
 | [],p,i,b,N,_,ho,hb=>by show zV7 m d (b.1,b.2.l) (p.to,i)=_;unfold zV7;rw [show p.to.at_=p.pos.l from rfl,zSc hm ho.fl hb];unfold zVF;split <;> rfl
 | c :: s,p,i,b,N,h,ho,hb=>by
   obtain ⟨hbt,hs⟩:=h c List.mem_cons_self;show (List.zipIdx (p.to :: states m (p.to.sign m (u8 c)) (s.map u8)) i).foldl (zV7 m d) (b.1,b.2.l)=_;rw [List.zipIdx_cons,List.foldl_cons,<- zN4 hm p hbt hs];have e:zV7 m d (b.1,b.2.l) (p.to,i)=((if zDc m d p.pos b.2=true then (i,p.pos) else b).1,(if zDc m d p.pos b.2=true then (i,p.pos) else b).2.l):=by unfold zV7;rw [show p.to.at_=p.pos.l from rfl,zSc hm ho.fl hb];split <;> rfl
   rw [e,zSg hm d s (p.sign m c) (i+1) _ (N+1) (fun x hx=>h x (List.mem_cons_of_mem _ hx)) (ho.sign hm c) (by
     split
     . exact ho.fl
     . exact hb)]
   rfl
theorem zXs {m:Nat}(hm:m∈ROUNDS)(d:Nat){s:List Int}(h:Sgs s):((states m begins (s.map u8)).zipIdx).foldl (zV7 m d) (0,origin)=((zJd m d s).1,(zJd m d s).2.l):=by have:=zSg hm d s ZG 0 (0,Pt.zero) 0 h (zDf.begin hm) Fl.zero;rw [show (if zDc m d ZG.pos ((0,Pt.zero):Nat×Pt).2=true then (0,ZG.pos) else (0,Pt.zero))=(0,Pt.zero) by split <;> rfl] at this;exact this
end
theorem Pt.zYn {a b:Pt}(h:a.l=b.l):a=b:=by unfold Pt.l at h;simp at h;exact Pt.ext' h.1 h.2.1 h.2.2.1 h.2.2.2
theorem zXt (a b:Pt):(a.l == b.l)=decide (a=b):=by rw [Bool.eq_iff_iff,beq_iff_eq,decide_eq_true_eq];exact ⟨Pt.zYn,fun e=>by rw [e]⟩
theorem snoc_ind {α:Type}{P:List α->Prop}(h0:P [])(h1:∀ l x,P l->P (l ++ [x]))(l:List α):P l:=by
 have:∀ r:List α,P r.reverse:=fun r=>by
   induction r with
   | nil=>exact h0
   | cons x r ih=>rw [List.reverse_cons];exact h1 _ _ ih
 have h:=this l.reverse
 rwa [List.reverse_reverse] at h
abbrev Stp:=Nat×QE×Pt
def zQc (f:Nat->Pt)(n:Nat):Pt:=(List.range n).foldl (fun a t=>a.add (f t)) Pt.zero
theorem zF8 (f:Nat->Pt)(n:Nat):zQc f (n+1)=(zQc f n).add (f n):=by unfold zQc;rw [List.range_succ,List.foldl_append];rfl
theorem Pt.zSh (a b:Pt):a.add b=b.add a:=by apply Pt.ext' <;> simp only [Pt.add] <;> omega
theorem Pt.zGq (a b c:Pt):(a.add b).add c=a.add (b.add c):=by apply Pt.ext' <;> simp only [Pt.add] <;> omega
theorem zPZ (f g:Nat->Pt)(k:Nat)(c:Pt)(hk:g k=(f k).add c)(ho:∀ t,t≠k->g t=f t):∀ n,zQc g n=if k < n then (zQc f n).add c else zQc f n
 | 0=>rfl
 | n+1=>by
   rw [zF8,zF8,zPZ f g k c hk ho n];by_cases h:k < n
   . rw [if_pos h,if_pos (by omega),ho n (by omega),Pt.zGq,Pt.zSh c,<- Pt.zGq]
   . rw [if_neg h];by_cases e:k=n
     . subst e;rw [if_pos (by omega),hk,Pt.zGq]
     . rw [if_neg (by omega),ho n (by omega)]
def bkt (l:List Stp)(t:Nat):Pt:=l.foldl (fun a x=>if x.2.1.turn=t then a.add x.2.1.pos else a) Pt.zero
theorem zHt (l:List Stp)(x:Stp)(t:Nat):bkt (l ++ [x]) t=if x.2.1.turn=t then (bkt l t).add x.2.1.pos else bkt l t:=by unfold bkt;rw [List.foldl_append];rfl
def zSi (m:Nat)(l:List Stp):Pt:=l.foldl (fun a x=>a.add (jU m x.2.1.pos (pw m x.2.1.turn))) Pt.zero
theorem zSj (m:Nat)(l:List Stp):(∀ x∈l,x.2.1.turn < m)->zQc (fun t=>jU m (bkt l t) (pw m t)) m=zSi m l:=by
 refine snoc_ind (P:=fun l=>(∀ x∈l,x.2.1.turn < m)->zQc (fun t=>jU m (bkt l t) (pw m t)) m=zSi m l) ?_ ?_ l
 . intro _;have:∀ n,zQc (fun t=>jU m (bkt [] t) (pw m t)) n=Pt.zero:=by
     intro n
     induction n with
     | zero=>rfl
     | succ n ih =>rw [zF8,ih];show Pt.add _ (jU m Pt.zero (pw m n))=_;rw [zQb];rfl
   exact this m
 . intro l x ih h;have h1:=ih fun y hy=>h y (List.mem_append_left _ hy);have h2:=h x (List.mem_append_right _ List.mem_cons_self);rw [zPZ (fun t=>jU m (bkt l t) (pw m t)) _ x.2.1.turn (jU m x.2.1.pos (pw m x.2.1.turn)),if_pos h2,h1]
   . unfold zSi;rw [List.foldl_append];rfl
   . show jU m (bkt (l ++ [x]) x.2.1.turn) _=_;rw [zHt,if_pos rfl,zSb]
   . intro t ht;show jU m (bkt (l ++ [x]) t) _=_;rw [zHt,if_neg (fun z=>ht z.symm)]
theorem zPa {m:Nat}(hm:m∈ROUNDS):∀ (l:List Stp)(a:Pt),(∀ x∈l,Fl m x.2.1.pos/\x.2.1.turn < m/\x.2.2=x.2.1.pos.add (pw m x.2.1.turn))-> (l.map st3).foldl (fun (s:Point) (x:Nat×(Pen×Point))=>Trail.plus s (less (times m (aside m x.2.1.at_) x.2.2) (times m x.2.1.at_ (aside m x.2.2)))) a.l=(l.foldl (fun a x=>a.add (jU m x.2.1.pos (pw m x.2.1.turn))) a).l
 | [],_,_=>rfl
 | x :: l,a,h=>by
   obtain ⟨h1,h2,h3⟩:=h x List.mem_cons_self;rw [List.map_cons,List.foldl_cons,List.foldl_cons];have e:Trail.plus a.l (less (times m (aside m (st3 x).2.1.at_) (st3 x).2.2) (times m (st3 x).2.1.at_ (aside m (st3 x).2.2)))=(a.add (jU m x.2.1.pos (pw m x.2.1.turn))).l:=by show Trail.plus a.l (less (times m (aside m x.2.1.pos.l) x.2.2.l) (times m x.2.1.pos.l (aside m x.2.2.l)))=_;rw [h3,zV6 hm h1 (h1.add (Fl.pw hm _)),zQa hm h1,zIQ]
   rw [e];exact zPa hm l _ fun y hy=>h y (List.mem_cons_of_mem _ hy)
theorem zXu {N:Int}(hN:0<=N)(t:Nat)(l:List Stp):(∀ x∈l,Bd N x.2.1.pos)->Bd (N * l.length) (bkt l t):=by
 refine snoc_ind (P:=fun l=>(∀ x∈l,Bd N x.2.1.pos)->Bd (N * l.length) (bkt l t)) ?_ ?_ l
 . intro _;show Bd (N * 0) Pt.zero;unfold Bd Pt.zero;simp
 . intro l x ih h;have h1:=ih fun y hy=>h y (List.mem_append_left _ hy);have h2:=h x (List.mem_append_right _ List.mem_cons_self);rw [zHt];have e:N * ((l ++ [x]).length:Int)=N * l.length+N:=by
     rw [List.length_append,List.length_singleton,Int.natCast_add,Int.mul_add];simp
   rw [e];split
   . exact h1.add h2
   . exact h1.mono (by omega)
theorem zM1 {m:Nat}(hm:m∈ROUNDS):∀ (s:List Int)(N:Int)(p:QE)(i:Nat),zDf m N p->∀ x∈zBN m p i s,Bd (N+s.length) x.2.1.pos
 | [],_,_,_,_,x,hx=>by cases hx
 | c :: s,N,p,i,h,x,hx=>by
   rw [jr] at hx;have ih:=zM1 hm s (N+1) (p.sign m c) (i+1) (h.sign hm c);rw [List.length_cons,show N+((s.length+1:Nat):Int)=N+1+(s.length:Int) by omega];split at hx
   . rcases List.mem_cons.mp hx with rfl | hx
     . exact h.bd.mono (by omega)
     . exact ih x hx
   . exact ih x hx
theorem zDu (m:Nat):∀ (s:List Int)(p:QE)(i:Nat),(zBN m p i s).length<=s.length
 | [],_,_=>Nat.le_refl _
 | c :: s,p,i=>by
   rw [jr];have ih:=zDu m s (p.sign m c) (i+1);split
   . rw [List.length_cons,List.length_cons];omega
   . rw [List.length_cons];omega
theorem zUG {m:Nat}(hm:m∈ROUNDS){s:List Int}(hl:s.length<=100000)(t:Nat):Bd 10000000000 (bkt (zY m s) t):=by
 have h:=zXu (N:=(s.length:Int)) (by omega) t (zY m s) (fun x hx=>by have:=zM1 hm s 0 ZG 0 (zDf.begin hm) x hx;rw [Int.zero_add] at this;exact this)
 refine h.mono ?_;have h1:=zDu m s ZG 0;have h2:(s.length:Int) * ((zY m s).length:Int)<=100000 * 100000:=Int.mul_le_mul (by omega) (by unfold zY;omega) (by omega) (by omega);omega
def zCj:List Stp->List Stp->Option (Nat×Nat)
 | _,[]=>none
 | done,x :: r=>match done.find? fun y=>decide (y.2.1.pos=x.2.2) || decide (y.2.2=x.2.2) with
   | some y=>some (y.1,x.1)
   | none=>zCj (done ++ [x]) r
theorem zKU (done r:List Stp)(x:Stp):zCj done (x :: r)=match done.find? fun y=>decide (y.2.1.pos=x.2.2) || decide (y.2.2=x.2.2) with
   | some y=>some (y.1,x.1)
   | none=>zCj (done ++ [x]) r:=rfl
theorem zSk:∀ (l done:List Stp),meetIn (done.map st3) (l.map st3)=zCj done l
 | [],_=>rfl
 | x :: l,done=>by
   rw [List.map_cons];unfold meetIn zCj;have e:(done.map st3).find? (fun (y:Nat×(Pen×Point))=>y.2.1.at_ == (st3 x).2.2 || y.2.2 == (st3 x).2.2)=(done.find? fun y=>decide (y.2.1.pos=x.2.2) || decide (y.2.2=x.2.2)).map st3:=by rw [List.find?_map];congr 2;funext y;show ((y.2.1.pos.l == x.2.2.l) || (y.2.2.l == x.2.2.l))=_;rw [zXt,zXt]
   rw [e];cases done.find? fun y=>decide (y.2.1.pos=x.2.2) || decide (y.2.2=x.2.2) with
   | some y=>rfl
   | none =>simp only [Option.map_none];have:=zSk l (done ++ [x]);rw [List.map_append] at this;exact this
theorem zIS:∀ (a b done:List Stp),zCj done (a ++ b)=match zCj done a with
   | some r=>some r
   | none=>zCj (done ++ a) b
 | [],b,done=>by simp [zCj]
 | x :: a,b,done=>by
   rw [List.cons_append,zKU,zKU];cases done.find? fun y=>decide (y.2.1.pos=x.2.2) || decide (y.2.2=x.2.2) with
   | some y=>rfl
   | none =>simp only;rw [zIS a b (done ++ [x]),List.append_assoc];rfl
def Q2 (l:List Stp)(p:Pt):Option Nat:=(l.find? fun y=>decide (y.2.1.pos=p) || decide (y.2.2=p)).map (·.1)
theorem zHL (l:List Stp)(x:Stp)(p:Pt):Q2 (l ++ [x]) p=match Q2 l p with
   | some i=>some i
   | none=>if x.2.1.pos=p\/x.2.2=p then some x.1 else none:=by
 unfold Q2;rw [List.find?_append];cases l.find? fun y=>decide (y.2.1.pos=p) || decide (y.2.2=p) with
 | some y=>rfl
 | none =>
   simp only [Option.map_none,Option.none_or,List.find?_cons,List.find?_nil];by_cases h:x.2.1.pos=p\/x.2.2=p
   . rw [if_pos h];have:(decide (x.2.1.pos=p) || decide (x.2.2=p))=true:=by simpa using h
     rw [this];rfl
   . rw [if_neg h];have:(decide (x.2.1.pos=p) || decide (x.2.2=p))=false:=by simpa using h
     rw [this];rfl
theorem zKV (l:List Stp)(x:Stp)(h:zCj [] l=none):zCj [] (l ++ [x])=(Q2 l x.2.2).map fun i=>(i,x.1):=by
 rw [zIS,h];simp only [List.nil_append];unfold zCj Q2;cases l.find? fun y=>decide (y.2.1.pos=x.2.2) || decide (y.2.2=x.2.2) with
 | some y=>rfl
 | none=>rfl
theorem zN5 (l r:List Stp)(x:Stp)(h:zCj [] l=none){i:Nat}(hf:Q2 l x.2.2=some i):zCj [] (l ++ x :: r)=some (i,x.1):=by have e:l ++ x :: r=(l ++ [x]) ++ r:=(by simp);rw [e,zIS,zKV l x h,hf];rfl
theorem zQd (d:Nat):paired d []=(d == 0):=rfl
theorem js (d:Nat)(c:UInt8)(s:Bytes):paired d (c :: s)=if c=91 then paired (d+1) s else if c=93 then (decide (0 < d) && paired (d - 1) s) else paired d s:=rfl
theorem zEv (t:Bytes)(d:Nat):∀ (r:Bytes)(e:Nat),paired e r=true->paired (d+e) (r ++ t)=paired d t
 | [],e,h=>by
   rw [zQd] at h;have:e=0:=by simpa using h
   subst this;rfl
 | c :: r,e,h=>by
   rw [List.cons_append,js];rw [js] at h;by_cases h1:c=91
   . rw [if_pos h1] at *;exact zEv t d r (e+1) h
   . rw [if_neg h1] at *;by_cases h2:c=93
     . rw [if_pos h2] at *;rw [Bool.and_eq_true,decide_eq_true_eq] at h;have:=zEv t d r (e - 1) h.2;rw [show d+e - 1=d+(e - 1) by omega,this];rw [decide_eq_true (by omega:0 < d+e),Bool.true_and]
     . rw [if_neg h2] at *;exact zEv t d r e h
theorem zIT (f:UInt8->Bytes)(hf:f 91=[91]/\f 93=[93]):∀ (s:Bytes)(d:Nat),(∀ c∈s,c≠91->c≠93->paired 0 (f c)=true)->paired d (s.flatMap f)=paired d s
 | [],_,_=>rfl
 | c :: s,d,hp=>by
   have ih:=fun d=>zIT f hf s d fun c hc=>hp c (List.mem_cons_of_mem _ hc);rw [List.flatMap_cons,js];by_cases h1:c=91
   . subst h1;rw [hf.1,List.singleton_append,js,if_pos rfl,if_pos rfl,ih]
   . by_cases h2:c=93
     . subst h2;rw [hf.2,List.singleton_append,js,if_neg h1,if_pos rfl,if_neg h1,if_pos rfl,ih]
     . rw [if_neg h1,if_neg h2];have:=zEv (s.flatMap f) d (f c) 0 (hp c List.mem_cons_self h1 h2);rw [Nat.add_zero] at this;rw [this,ih]
theorem zPb {m:Nat}{c:Int}(p:QE):(p.sign m c).kept.length=if c=91 then p.kept.length+1 else if c=93 then p.kept.length - 1 else p.kept.length:=by
 unfold QE.sign;by_cases h1:c=91
 . subst h1;rw [if_neg (by decide),if_neg (by decide),if_pos rfl,if_pos rfl];rfl
 . by_cases h2:c=93
   . subst h2;rw [if_neg (by decide),if_neg (by decide),if_neg h1,if_pos rfl,if_neg h1,if_pos rfl];cases e:p.kept with
     | nil=>simp [e]
     | cons x r=>simp
   . rw [if_neg h1,if_neg h2,if_neg h1,if_neg h2];split
     . split <;> rfl
     . split <;> rfl
theorem zPc {m:Nat}(b:List Int):∀ (a:List Int)(p:QE),(∀ x∈a,qS x)->paired p.kept.length ((a ++ 93 :: b).map u8)=true->(a.foldl (fun p c=>p.sign m c) p).kept≠[]
 | [],p,_,h=>by have h:paired p.kept.length (93 :: b.map u8)=true:=h;rw [js,if_neg (by decide),if_pos rfl,Bool.and_eq_true,decide_eq_true_eq] at h;intro z;show False;have z:p.kept=[]:=z;rw [z] at h;exact absurd h.1 (by decide)
 | c :: a,p,hb,h=>by
   rw [List.foldl_cons];refine zPc b a (p.sign m c) (fun x hx=>hb x (List.mem_cons_of_mem _ hx)) ?_;rw [zPb];have hc:=hb c List.mem_cons_self;rw [List.cons_append,List.map_cons,js] at h;by_cases h1:c=91
   . rw [if_pos h1];rw [if_pos ((zQU hc).mpr h1)] at h;exact h
   . rw [if_neg fun z=>h1 ((zQU hc).mp z)] at h;rw [if_neg h1];by_cases h2:c=93
     . rw [if_pos ((zQV hc).mpr h2),Bool.and_eq_true] at h;rw [if_pos h2];exact h.2
     . rw [if_neg fun z=>h2 ((zQV hc).mp z)] at h;rw [if_neg h2];exact h
theorem zIU {m:Int}(hT:m∈jW){l:List Int}(hb:∀ x∈l,qS x)(h:qU m l=true):(∀ x∈l,jk x=true)/\paired 0 (l.map u8)=true:=by
 have e:=zAk m.toNat l hb;rw [<- zF4 hT,h] at e;have e:Trail.isRow m.toNat (l.map u8)=true:=by
   first | exact e.symm | exact e
 unfold Trail.isRow at e;simp only [Bool.and_eq_true] at e;refine ⟨fun x hx=>?_,e.2.1⟩;have:=List.all_eq_true.mp e.1 (u8 x) (List.mem_map.mpr ⟨x,hx,rfl⟩);rw [zPI (hb x hx)] at this;exact this
structure zN6 (L:List Int):Prop where
 sg:Sgs L
 pr:paired 0 (L.map u8)=true
section
variable {w:World}{m:Int}{row:List Int}{rl:RL}
theorem zM2 (R:j8 w m row rl):∀ g,zN6 (zg rl row g)
 | 0=>⟨fun c hc=>⟨R.rowOk.2 c hc,(zIU R.mT R.rowOk.2 R.rowOk.1).1 c hc⟩,(zIU R.mT R.rowOk.2 R.rowOk.1).2⟩
 | g+1=>by
   have ih:=zM2 R g;have hb:=zCI R.rowOk.2 (fun x hx=>(R.rlOk x hx).2.2) (g+1);have hr:∀ c r,look rl c=some r->isLet c=true/\(∀ x∈r,jk x=true)/\paired 0 (r.map u8)=true:=fun c r hc=>by obtain ⟨x,hx,rfl,rfl⟩:=zIP hc;obtain ⟨h1,h2,h3⟩:=R.rlOk x hx;exact ⟨h1,zIU R.mT h3 h2⟩
   refine ⟨fun c hc=>⟨hb c hc,?_⟩,?_⟩
   . have hc:c∈(zg rl row g).flatMap fun c=>(look rl c).getD [c]:=hc;obtain ⟨d,hd,hc⟩:=List.mem_flatMap.mp hc;cases q:look rl d with
     | none =>rw [q] at hc;rw [List.mem_singleton.mp hc];exact (ih.sg d hd).2
     | some r =>rw [q] at hc;exact (hr d r q).2.1 c hc
   . rw [<- R.gen];show paired 0 ((w.gen g).flatMap fun c=>(w.rule c).getD [c])=true;have r91:w.rule 91=none:=by
       have:=R.rules 91 (by decide);rw [show u8 91=91 from rfl] at this;rw [this];cases q:look rl 91 with
       | none=>rfl
       | some r=>exact absurd (hr _ _ q).1 (by decide)
     have r93:w.rule 93=none:=by
       have:=R.rules 93 (by decide);rw [show u8 93=93 from rfl] at this;rw [this];cases q:look rl 93 with
       | none=>rfl
       | some r=>exact absurd (hr _ _ q).1 (by decide)
     rw [zIT _ ⟨by rw [r91];rfl,by rw [r93];rfl⟩,R.gen]
     . exact ih.pr
     . intro c hc h1 h2;rw [R.gen] at hc;obtain ⟨d,hd,rfl⟩:=List.mem_map.mp hc;rw [R.rules d (ih.sg d hd).1];cases q:look rl d with
       | none =>show paired 0 [u8 d]=true;rw [js,if_neg h1,if_neg h2];rfl
       | some r=>exact (hr d r q).2.2
theorem zN6.take {L:List Int}(h:zN6 L)(i:Nat):Sgs (L.take i):=fun c hc=>h.sg c (List.mem_of_mem_take hc)
theorem zN6.kept {L:List Int}(h:zN6 L){i:Nat}(hi:L[i]? = some 93)(m:Nat):(zT m (L.take i)).kept≠[]:=by
 have hl:i < L.length:=by
   by_cases z:i < L.length
   . exact z
   . rw [List.getElem?_eq_none (by omega)] at hi;cases hi
 have e:L=L.take i ++ 93 :: L.drop (i+1):=by rw [<- drop_cons hi,List.take_append_drop]
 have hp:=h.pr;rw [e] at hp;exact zPc (L.drop (i+1)) (L.take i) ZG (fun x hx=>(h.take i x hx).1) hp
end
def zN7 (p:QE):List Int:=p.pos.l ++ [(p.turn:Int),(p.kept.length:Int),(p.drawn:Int),(p.letters:Int)]
theorem zSl (p:QE):penNums p.to=zN7 p:=by unfold penNums zN7 QE.to;rw [List.length_map]
def Zx (u s:List Int)(i n:Nat):List Nat:=(List.range' i n).filter fun p=>decide ((s.drop p).take u.length=u)
theorem zM3 (u s:List Int)(i n:Nat):Zx u s i (n+1)=Zx u s i n ++ (if (s.drop (i+n)).take u.length=u then [i+n] else []):=by
 unfold Zx;rw [List.range'_concat,List.filter_append,Nat.one_mul];congr 1;by_cases h:(s.drop (i+n)).take u.length=u
 . rw [if_pos h];simp [h]
 . rw [if_neg h];simp [h]
def zDv (u:Bytes)(i:Nat):Nat->Bytes->List Nat
 | _,[]=>[]
 | k,c :: s=>(if i<=k/\stands u (c :: s)=true then [k] else []) ++ zDv u i (k+1) s
theorem zVG (u:Bytes)(i:Nat):∀ (s:Bytes)(k:Nat),findFrom u i k s=(zDv u i k s).head?
 | [],_=>rfl
 | c :: s,k=>by
   unfold findFrom zDv;split
   . rfl
   . rw [zVG u i s];rfl
theorem zSm (u:Bytes):∀ (s:Bytes)(k:Nat),timesIn u s=(zDv u 0 k s).length
 | [],_=>rfl
 | c :: s,k=>by
   unfold timesIn zDv;rw [zSm u s (k+1),List.length_append];by_cases h:stands u (c :: s)=true
   . rw [if_pos h,if_pos ⟨Nat.zero_le _,h⟩];rfl
   . rw [if_neg h,if_neg fun z=>h z.2];rfl
theorem zQe (u s:Bytes):stands u s=true↔s.take u.length=u:=by unfold stands;rw [List.isPrefixOf_iff_prefix,List.prefix_iff_eq_take];exact ⟨fun h=>h.symm,fun h=>h.symm⟩
theorem zIV:∀ {a b:List Int},(∀ x∈a,qS x)->(∀ x∈b,qS x)->a.map u8=b.map u8->a=b
 | [],[],_,_,_=>rfl
 | [],_ :: _,_,_,h=>by simp at h
 | _ :: _,[],_,_,h=>by simp at h
 | x :: a,y :: b,ha,hb,h=>by simp only [List.map_cons,List.cons.injEq] at h;rw [zKM (ha x List.mem_cons_self) (hb y List.mem_cons_self) h.1,zIV (fun z hz=>ha z (List.mem_cons_of_mem _ hz)) (fun z hz=>hb z (List.mem_cons_of_mem _ hz)) h.2]
theorem zKW {u s:List Int}(hu:∀ x∈u,qS x)(hs:∀ x∈s,qS x)(i:Nat):∀ (n k:Nat),k+n=s.length->zDv (u.map u8) i k ((s.drop k).map u8)=(List.range' k n).filter fun p=>decide (i<=p/\(s.drop p).take u.length=u)
 | 0,k,h=>by rw [List.drop_eq_nil_of_le (by omega)];rfl
 | n+1,k,h=>by
   have hk:k < s.length:=(by omega);have e:s.drop k=s[k] :: s.drop (k+1):=List.drop_eq_getElem_cons hk;have ih:=zKW hu hs i n (k+1) (by omega);rw [List.range'_succ,List.filter_cons,<- ih,e,List.map_cons];show (if i<=k/\stands (u.map u8) (u8 s[k] :: (s.drop (k+1)).map u8)=true then [k] else []) ++ zDv (u.map u8) i (k+1) ((s.drop (k+1)).map u8)=_;rw [<- List.map_cons (f:=u8),<- e];have hiff:(i<=k/\stands (u.map u8) ((s.drop k).map u8)=true)↔(i<=k/\(s.drop k).take u.length=u):=by rw [zQe,List.length_map,<- List.map_take];refine and_congr Iff.rfl ⟨fun h=>zIV (fun x hx=>hs x (List.mem_of_mem_drop (List.mem_of_mem_take hx))) hu h,fun h=>by rw [h]⟩
   by_cases c:i<=k/\(s.drop k).take u.length=u
   . rw [if_pos (hiff.mpr c),if_pos (decide_eq_true c)];rfl
   . rw [if_neg (fun z=>c (hiff.mp z)),if_neg (by simpa using c)];rfl
theorem zM4 (i:Nat)(q:Nat->Bool):∀ (n k:Nat),(List.range' k n).filter (fun p=>decide (i<=p) && q p)=(List.range' (max i k) (k+n - max i k)).filter q
 | 0,k=>by rw [show k+0 - max i k=0 by omega];rfl
 | n+1,k=>by
   rw [List.range'_succ,List.filter_cons,zM4 i q n (k+1)];by_cases h:i<=k
   . rw [show max i k=k by omega,show max i (k+1)=k+1 by omega,show k+(n+1) - k=(n)+1 by omega,show k+1+n - (k+1)=n by omega,List.range'_succ,List.filter_cons];simp [h]
   . rw [show max i k=i by omega,show max i (k+1)=i by omega,show k+(n+1) - i=k+1+n - i by omega];simp [h]
theorem places_eq {u s:List Int}(hu:∀ x∈u,qS x)(hs:∀ x∈s,qS x)(i:Nat):zDv (u.map u8) i 0 (s.map u8)=Zx u s i (s.length - i):=by
 have:=zKW hu hs i s.length 0 (by omega);rw [List.drop_zero] at this;rw [this];have e:(fun p=>decide (i<=p/\(s.drop p).take u.length=u))=fun p=>decide (i<=p) && decide ((s.drop p).take u.length=u):=by funext p;simp
 rw [e,zM4,show max i 0=i by omega,Nat.zero_add];rfl
section
variable {w:World}{m:Int}{row:List Int}{rl:RL}
theorem j8.rounds (R:j8 w m row rl):w.m∈ROUNDS:=by have h:=R.mT;rw [zPS,List.mem_map] at h;obtain ⟨n,hn,e⟩:=h;rw [R.em,<- e];exact hn
theorem j8.mm (R:j8 w m row rl):m=(w.m:Int):=by have h:=R.mT;have e:=R.em;unfold jW at h;simp at h;omega
theorem j8.bytes (R:j8 w m row rl)(g:Nat):∀ x∈zg rl row g,qS x:=zCI R.rowOk.2 (fun x hx=>(R.rlOk x hx).2.2) g
theorem j8.steps (R:j8 w m row rl)(g:Nat):w.steps g=(zY w.m (zg rl row g)).map st3:=by unfold World.steps;rw [R.gen];exact zPX R.rounds (zg rl row g) ZG 0 (zM2 R g).sg
def zQf (L u:List Int)(i:Nat):Ans:=match (Zx u L i (L.length - i)).head? with
 | some k=>tells 1 [(k:Int)]
 | none=>says 0
abbrev zJe (g:Nat)(bad:Bool)(n:Nat)(a:Ans):List Int:=if zCh g bad n < 0 then [zCh g bad n] else zPU a
def qw (u:List Int):Bool:=u.isEmpty || decide (64 < u.length)
theorem zVH (u:List Int):((u.map u8).isEmpty || decide (WORD < (u.map u8).length))=qw u:=by unfold qw WORD;rw [List.length_map];cases u <;> rfl
theorem zV8 (R:j8 w m row rl){g i:Int}{u:List Int}(hu:∀ x∈u,qS x):TrailNeutral.step w [[9,g,i],u]=(w,zJe g.toNat (qw u) (zg rl row g.toNat).length (zQf (zg rl row g.toNat) u i.toNat)):=by rw [zDs R [[9,g,i],u] (.find g.toNat (u.map u8) i.toNat) g.toNat (qw u) (fun _=>zQf (zg rl row g.toNat) u i.toNat) rfl rfl];simp only [told];rw [zVH,R.gen,zVG,places_eq hu (R.bytes _)];rfl
theorem zUH (R:j8 w m row rl){g:Int}{u:List Int}(hu:∀ x∈u,qS x):TrailNeutral.step w [[10,g],u]=(w,zJe g.toNat (qw u) (zg rl row g.toNat).length (tells 0 [((Zx u (zg rl row g.toNat) 0 (zg rl row g.toNat).length).length:Int)])):=by rw [zDs R [[10,g],u] (.often g.toNat (u.map u8)) g.toNat (qw u) (fun _=>tells 0 [((Zx u (zg rl row g.toNat) 0 (zg rl row g.toNat).length).length:Int)]) rfl rfl];simp only [told];rw [zVH,R.gen,zSm _ _ 0,places_eq hu (R.bytes _),Nat.sub_zero]
def zKX (m:Nat)(L:List Int)(i:Nat):Ans:=if L.length < i then says (-2) else tells 0 (zN7 (zT m (L.take i)))
theorem zUI (R:j8 w m row rl){g i:Int}:TrailNeutral.step w [[11,g,i]]=(w,zJe g.toNat false (zg rl row g.toNat).length (zKX w.m (zg rl row g.toNat) i.toNat)):=by rw [zDs R [[11,g,i]] (.where_ g.toNat i.toNat) g.toNat false (fun _=>zKX w.m (zg rl row g.toNat) i.toNat) rfl rfl];simp only [told];unfold zKX World.state;rw [R.len,R.gen,<- List.map_take,zUF R.rounds ((zM2 R _).take _),zSl]
def zKY (m:Nat)(L:List Int)(k:Nat):Ans:=match (zY m L)[k]? with
 | some x=>tells 0 [(x.1:Int)]
 | none=>says (-2)
theorem zUJ (R:j8 w m row rl){g i:Int}:TrailNeutral.step w [[12,g,i]]=(w,zJe g.toNat false (zg rl row g.toNat).length (zKY w.m (zg rl row g.toNat) i.toNat)):=by rw [zDs R [[12,g,i]] (.drawn g.toNat i.toNat) g.toNat false (fun _=>zKY w.m (zg rl row g.toNat) i.toNat) rfl rfl];simp only [told];unfold zKY;rw [R.steps,List.getElem?_map];cases (zY w.m (zg rl row g.toNat))[i.toNat]? <;> rfl
def zYo (m d:Nat)(L:List Int):Ans:=tells 0 (((zJd m d L).1:Int) :: (zJd m d L).2.l)
theorem zXv (R:j8 w m row rl){g d:Int}:TrailNeutral.step w [[13,g,d]]=(w,zJe g.toNat false (zg rl row g.toNat).length (zYo w.m d.toNat (zg rl row g.toNat))):=by
 rw [zDs R [[13,g,d]] (.far g.toNat d.toNat) g.toNat false (fun _=>zYo w.m d.toNat (zg rl row g.toNat)) rfl rfl];show ofGen w g.toNat false (fun _=>tells 0 (((w.farthest g.toNat d.toNat).1:Int) :: (w.farthest g.toNat d.toNat).2))=_;have e:w.farthest g.toNat d.toNat=((zJd w.m d.toNat (zg rl row g.toNat)).1,(zJd w.m d.toNat (zg rl row g.toNat)).2.l):=by rw [<- zXs R.rounds d.toNat (zM2 R g.toNat).sg,<- R.gen];rfl
 rw [e];rfl
def zSn (m:Nat)(L:List Int):Ans:=tells 0 (zQc (fun t=>jU m (bkt (zY m L) t) (pw m t)) m).l
theorem zUK (R:j8 w m row rl){g:Int}:TrailNeutral.step w [[14,g]]=(w,zJe g.toNat false (zg rl row g.toNat).length (zSn w.m (zg rl row g.toNat))):=by
 rw [zDs R [[14,g]] (.round g.toNat) g.toNat false (fun _=>zSn w.m (zg rl row g.toNat)) rfl rfl];show ofGen w g.toNat false (fun _=>tells 0 (w.round g.toNat))=_;have hf:∀ x∈zY w.m (zg rl row g.toNat),Fl w.m x.2.1.pos/\x.2.1.turn < w.m/\x.2.2=x.2.1.pos.add (pw w.m x.2.1.turn):=zM0 R.rounds (zg rl row g.toNat) 0 ZG 0 (zDf.begin R.rounds);have e:w.round g.toNat=(zQc (fun t=>jU w.m (bkt (zY w.m (zg rl row g.toNat)) t) (pw w.m t)) w.m).l:=by rw [zSj _ _ fun x hx=>(hf x hx).2.1];unfold World.round;rw [R.steps];exact zPa R.rounds _ Pt.zero hf
 rw [e];rfl
def zM5 (m:Nat)(L:List Int)(n:Nat):Ans:=match zCj [] ((zY m L).take n) with
 | some x=>tells 1 [(x.1:Int),(x.2:Int)]
 | none=>says 0
theorem zUL (R:j8 w m row rl){g n:Int}:TrailNeutral.step w [[15,g,n]]=(w,zJe g.toNat (decide (1000 < n.toNat)) (zg rl row g.toNat).length (zM5 w.m (zg rl row g.toNat) n.toNat)):=by rw [zDs R [[15,g,n]] (.meets g.toNat n.toNat) g.toNat (decide (1000 < n.toNat)) (fun _=>zM5 w.m (zg rl row g.toNat) n.toNat) rfl rfl];simp only [told];rw [R.steps,<- List.map_take];have:=zSk ((zY w.m (zg rl row g.toNat)).take n.toNat) [];rw [List.map_nil] at this;rw [this];rfl
def zDg (m:Nat)(L:List Int)(i n:Nat):List Stp:=((zY m L).filter fun x=>decide (i<=x.1)).take n
def zTQ (x:Stp):List Int:=(x.1:Int) :: zN7 x.2.1
def zV9 (m:Nat)(L:List Int)(i n:Nat):Ans:=tells ((zDg m L i n).length:Int) ((zDg m L i n).flatMap zTQ)
theorem zWA (R:j8 w m row rl){g i n:Int}:TrailNeutral.step w [[16,g,i,n]]=(w,zJe g.toNat (decide (1000 < n.toNat)) (zg rl row g.toNat).length (zV9 w.m (zg rl row g.toNat) i.toNat n.toNat)):=by
 rw [zDs R [[16,g,i,n]] (.walk g.toNat i.toNat n.toNat) g.toNat (decide (1000 < n.toNat)) (fun _=>zV9 w.m (zg rl row g.toNat) i.toNat n.toNat) rfl rfl];show ofGen w g.toNat (decide (STEPS < n.toNat)) (fun _=>tells ((((w.steps g.toNat).filter fun (x:Nat×(Pen×Point))=>decide (i.toNat<=x.1)).take n.toNat).length:Int) ((((w.steps g.toNat).filter fun (x:Nat×(Pen×Point))=>decide (i.toNat<=x.1)).take n.toNat).flatMap fun (x:Nat×(Pen×Point))=>(x.1:Int) :: penNums x.2.1))=_;have e:((w.steps g.toNat).filter fun (x:Nat×(Pen×Point))=>decide (i.toNat<=x.1)).take n.toNat=(zDg w.m (zg rl row g.toNat) i.toNat n.toNat).map st3:=by rw [R.steps,List.filter_map,<- List.map_take];rfl
 rw [e,List.length_map,List.flatMap_map];have e2:(fun (x:Stp)=>((st3 x).1:Int) :: penNums (st3 x).2.1)=zTQ:=by funext x;show (x.1:Int) :: penNums x.2.1.to=_;rw [zSl];rfl
 rw [e2];rfl
end
theorem c17 {P:Int->Prop}(f:∀ n,P (Int.negSucc n))(g:∀ n:Nat,P ((n+17:Nat):Int))(a0:P 0)(a1:P 1)(a2:P 2)(a3:P 3)(a4:P 4)(a5:P 5)(a6:P 6)(a7:P 7)(a8:P 8)(a9:P 9)(b0:P 10)(b1:P 11)(b2:P 12)(b3:P 13)(b4:P 14)(b5:P 15)(b6:P 16):∀ k,P k
 | .negSucc n=>f n
 | .ofNat n=>match n with
   | 0=>a0 | 1=>a1 | 2=>a2 | 3=>a3 | 4=>a4 | 5=>a5 | 6=>a6 | 7=>a7 | 8=>a8 | 9=>a9 | 10=>b0 | 11=>b1 | 12=>b2 | 13=>b3 | 14=>b4 | 15=>b5 | 16=>b6 | n+17=>g n
theorem l5 {P:List Int->Prop}(a:P [])(b:∀ k,P [k])(c:∀ x k,P [k,x])(d:∀ x y k,P [k,x,y])(e:∀ x y z k,P [k,x,y,z])(f:∀ x y z u r k,P (k :: x :: y :: z :: u :: r)):∀ l,P l
 | []=>a | [k]=>b k | [k,x]=>c x k | [k,x,y]=>d x y k | [k,x,y,z]=>e x y z k | k :: x :: y :: z :: u :: r=>f x y z u r k
theorem c3 {f g:List (List Int)->α}(h:∀ l,f [l]=g [l])(h1:∀ t l,f [l,t]=g [l,t])(h2:∀ t u s l,f (l :: t :: u :: s)=g (l :: t :: u :: s))(n:f []=g []):∀ c,f c=g c
 | []=>n | [l]=>h l | [l,t]=>h1 t l | l :: t :: u :: s=>h2 t u s l
theorem zPd (c:List (List Int)):PyWqazat.whole c=c:=by
 refine c3 (f:=PyWqazat.whole) (g:=id) ?_ (fun t=>?_) (fun t u s=>?_) rfl c <;>
 refine l5 rfl ?_ (fun _=>?_) (fun _ _=>?_) (fun _ _ _=>?_) (fun _ _ _ _ _=>?_) <;> exact c17 (fun _=>rfl) (fun _=>rfl) rfl rfl rfl rfl rfl rfl rfl rfl rfl rfl rfl rfl rfl rfl rfl rfl rfl
theorem zWB (s:State)(c:List (List Int))(h:TrailNeutral.asked1 c=true):TrailNeutral.next s c=(TrailNeutral.step s c).1:=by
 refine c3 (f:=TrailNeutral.next s) (g:=fun c=>(TrailNeutral.step s c).1) ?_ (fun t=>?_) (fun t u v=>?_) rfl c <;>
 refine l5 rfl ?_ (fun _=>?_) (fun _ _=>?_) (fun _ _ _=>?_) (fun _ _ _ _ _=>?_) <;> exact c17 (fun _=>rfl) (fun _=>rfl) rfl rfl rfl rfl rfl rfl rfl rfl rfl rfl rfl rfl rfl rfl rfl rfl rfl
theorem zQg {n:Nat}{s:State}{c:List (List Int)}{r:List (List (List Int))}(ha:TrailNeutral.asked1 c=true)(h:TrailNeutral.light n s (c :: r)=true):TrailNeutral.weight s c<=n/\TrailNeutral.light (n - TrailNeutral.weight s c) (TrailNeutral.step s c).1 r=true:=by
 unfold TrailNeutral.light at h;split at h
 . cases h
 . rename_i h1;rw [zWB s c ha] at h;exact ⟨by omega,h⟩
theorem zVI (cs:List (List (List Int))):cs.map PyWqazat.whole=cs:=by
 conv=>rhs;rw [<- List.map_id cs]
 apply List.map_congr_left;intro c _;exact zPd c
end PT
namespace PT
end PT
open PySem PySem.Spec PyProof.Rows L2 XC
set_option hygiene false in
local macro_rules | `(tactic| walk_at "s")=>`(tactic| try simp only [↓xS,↓xI,↓xB,↓xII,↓xR1,↓xR2,↓xR3,↓xR4,↓xR5,List.getElem?_cons_zero,List.getElem?_cons_succ,List.set_cons_zero,List.set_cons_succ,Option.some.injEq,V.int.injEq,V.bl.injEq,V.ref.injEq,exists_eq_left',exists_eq_left,exists_eq_right,exists_and_left,and_true,true_and,List.cons_append,List.nil_append,List.append_nil,List.cons.injEq,reduceCtorEq,false_and,exists_false,exists_const,if_true,if_false])
set_option hygiene false in
local macro_rules | `(tactic| walk_at "rd")=>`(tactic| ((try dsimp only [zKF,Cx.nox,Cx.zP1,zHD,zVV,Zv,zTY,zWx,zVW,zE9,zFr,tC,tOp,rI0,rI,rEq,rNe,zNb,zMS,zX7,tOr,zX8,zTW,zX9,zVU,tIf,tB,zYN,t2I,zJY,zP8,zGj,zYA,ipI,tCB,rIn,zUm,zWk,tBM,zYH,tUn,rU,zP2,tSl,zQC,zK0,zXD,zYG,zYF,zP9,zNd,zYD,zW5,zKx,zYE,zYV,zX6,zVT,zPB,zPC,List.getElem?_cons_zero,List.getElem?_cons_succ,List.set_cons_zero,List.set_cons_succ,List.cons_append,List.nil_append]);walk_at "s"))
set_option hygiene false in
local macro_rules | `(tactic| walk_at "dd")=>`(tactic| ((try dsimp only [zKF,Cx.nox,Cx.zP1,zHD,zVV,Zv,zTY,zWx,zVW,zE9,zFr,tC,tOp,rI0,rI,rEq,rNe,zNb,zMS,zX7,tOr,zX8,zTW,zX9,zVU,tIf,tB,zYN,t2I,zJY,zP8,zGj,zYA,ipI,tCB,rIn,zUm,zWk,tBM,zYH,tUn,rU,zP2,tSl,zQC,zK0,zXD,zYG,zYF,zP9,zNd,zYD,zW5,zKx,zYE,zYV,zX6,zVT,zPB,zPC,zVf,zVe,zRh,zUt,zYa,zRf,zRg,zTl,zNi,zNj,List.getElem?_cons_zero,List.getElem?_cons_succ,List.set_cons_zero,List.set_cons_succ,List.cons_append,List.nil_append]);walk_at "s"))
set_option hygiene false in
local macro_rules | `(tactic| walk_at "ee")=>`(tactic| ((try dsimp only [zKF,Cx.nox,Cx.zP1,zHD,zVV,Zv,zTY,zWx,zVW,zE9,zFr,tC,tOp,rI0,rI,rEq,rNe,zNb,zMS,zX7,tOr,zX8,zTW,zX9,zVU,tIf,tB,zYN,t2I,zJY,zP8,zGj,zYA,ipI,tCB,rIn,zUm,zWk,tBM,zYH,tUn,rU,zP2,tSl,zQC,zK0,zXD,zYG,zYF,zP9,zNd,zYD,zW5,zKx,zYE,zYV,zX6,zVT,zPB,zPC,zVf,zVe,zRh,zUt,zYa,zRf,zRg,zTl,zNi,zNj,zY6,zR4,zY7,zW9,zY3,zY8,zXC,zY0,zYQ,zTa,zYP,zUx,zXe,zUy,zUz,zU0,zXM,zO1,zYX,zUg,List.getElem?_cons_zero,List.getElem?_cons_succ,List.set_cons_zero,List.set_cons_succ,List.cons_append,List.nil_append]);walk_at "s"))
namespace PT
open PySem PySem.Spec PyProof.Rows L2 XC
def scC (N P:List Str)(sc:Scope):Bool:=(match sc.kind with | .function=>true | _=>false) && !sc.isCoroutine && !sc.isGenerator && decide N.Nodup && decide (N.take P.length=P) && P.all (fun x=>match sc.names.lookup x with | some .local=>true | some .cell=>true | _=>false) && sc.names.all fun y=>match y.2 with | .free=>false | _=>true
theorem jG {N P:List Str}{sc:Scope}(h:scC N P sc=true):zL N P sc:=by
 unfold scC at h;simp only [Bool.and_eq_true,decide_eq_true_eq,List.all_eq_true,Bool.not_eq_true'] at h;obtain ⟨⟨⟨⟨⟨⟨h1,h2⟩,h3⟩,h4⟩,h5⟩,h6⟩,h7⟩:=h;refine ⟨?_,h2,h3,h4,h5,fun x hx=>?_,fun y hy z=>?_⟩
 . split at h1
   . assumption
   . cases h1
 . have:=h6 x hx;split at this
   . exact .inl (by assumption)
   . exact .inr (by assumption)
   . cases this
 . have:=h7 y hy;rw [z] at this;cases this
def top (i:Nat):Stmt:=PySem.Challenge.pw_pentrail_s01_answers.main.body.getD i (.Pass ⟨0,0,0,0⟩)
abbrev zCk:Stmt:=inClass (top 1) 0
abbrev zCl:Stmt:=inClass (top 1) 1
abbrev zBl:Stmt:=top 2
abbrev zFX:Stmt:=top 3
abbrev zFY:Stmt:=top 4
abbrev zAm:Stmt:=top 6
abbrev zIW:Stmt:=top 10
abbrev zIX:Stmt:=top 21
abbrev zFZ:Stmt:=top 22
abbrev zIY:Stmt:=top 23
abbrev zDw:Stmt:=top 24
abbrev zCm:Stmt:=top 25
abbrev zIZ:Stmt:=top 26
abbrev zFa:Stmt:=top 27
abbrev zLV:Stmt:=top 28
abbrev zAn:Stmt:=top 32
abbrev zBm:Stmt:=top 33
abbrev zBn:Stmt:=top 34
abbrev zDx:Stmt:=top 35
abbrev zCn:Stmt:=top 36
abbrev zBo:Stmt:=top 37
abbrev zSo:Stmt:=top 43
abbrev zGr:Stmt:=top 44
abbrev zN8:Stmt:=top 45
abbrev zIa:Stmt:=top 46
abbrev zCo:Stmt:=top 47
abbrev zN9:Stmt:=top 48
abbrev zOA:Stmt:=top 49
abbrev zIb:Stmt:=top 50
abbrev zIc:Stmt:=top 55
abbrev zDy:Stmt:=top 56
abbrev qH:Stmt:=inClass (top 57) 0
abbrev ZH:Stmt:=inClass (top 57) 1
abbrev zGs:Stmt:=inClass (top 59) 0
abbrev zDz:Stmt:=inClass (top 59) 1
abbrev Zy:Stmt:=inClass (top 59) 2
abbrev zGt:Stmt:=inClass (top 59) 3
abbrev zCp:Stmt:=inClass (top 59) 4
abbrev zFb:Stmt:=inClass (top 59) 5
abbrev zBp:Stmt:=top 61
abbrev QF:Stmt:=top 62
abbrev zGu:Stmt:=top 63
abbrev zD0:Stmt:=top 64
abbrev zAo:Stmt:=top 65
abbrev zD1:Stmt:=top 66
abbrev zBq:Stmt:=top 69
abbrev zBr:Stmt:=top 70
abbrev zD2:Stmt:=top 71
abbrev zBs:Stmt:=top 72
abbrev zBt:Stmt:=top 73
abbrev zCq:Stmt:=top 74
abbrev J6:Stmt:=inClass (top 78) 0
abbrev Jc:Stmt:=top 79
abbrev zId:Stmt:=top 80
abbrev Zz:Stmt:=top 81
abbrev zD3:Stmt:=top 82
abbrev zGv:Stmt:=top 83
abbrev zCr:Stmt:=top 84
abbrev zFc:Stmt:=top 85
abbrev zBu:Stmt:=top 88
abbrev zD4:Stmt:=top 89
abbrev zCs:Stmt:=top 90
abbrev zCt:Stmt:=top 91
abbrev zBv:Stmt:=top 92
abbrev zGw:Stmt:=top 94
abbrev zFd:Stmt:=top 95
abbrev zBw:Stmt:=inClass (top 96) 0
abbrev zAp:Stmt:=inClass (top 96) 1
abbrev J7:Stmt:=inClass (top 96) 2
abbrev zFe:Stmt:=top 97
abbrev zCu:Stmt:=top 98
abbrev zD5:Stmt:=inClass (top 100) 0
abbrev zBx:Stmt:=inClass (top 100) 1
abbrev zAq:Stmt:=inClass (top 100) 2
abbrev J8:Stmt:=inClass (top 100) 3
abbrev J9:Stmt:=inClass (top 100) 4
abbrev Q3:Stmt:=inClass (top 100) 5
abbrev zAA:Stmt:=inClass (top 100) 6
abbrev zCv:Stmt:=inClass (top 119) 0
abbrev zAr:Stmt:=inClass (top 119) 1
abbrev zCw:Stmt:=inClass (top 119) 2
abbrev QG:Stmt:=inClass (top 119) 3
abbrev zCx:Stmt:=top 120
abbrev zCy:Stmt:=top 121
abbrev zD6:Stmt:=top 122
abbrev zGx:Stmt:=top 123
abbrev zF9:Stmt:=top 124
theorem zJf:zL ["self","number","listed","text"] ["self","number","listed","text"] (zH zCk):=jG (by decide +kernel)
theorem zJg:zL ["self"] ["self"] (zH zCl):=jG (by decide +kernel)
theorem zIe:zL ["number"] ["number"] (zH zBl):=jG (by decide +kernel)
theorem zM6:zL ["number","listed"] ["number","listed"] (zH zFX):=jG (by decide +kernel)
theorem zM7:zL ["text"] ["text"] (zH zFY):=jG (by decide +kernel)
theorem zD7:zL ["w","signs","first","place"] ["w","signs","first"] (zH zAm):=jG (by decide +kernel)
theorem zQh:zL ["world","g","rightly_asked"] ["world","g","rightly_asked"] (zH zIW):=jG (by decide +kernel)
theorem zQi:zL ["byte"] ["byte"] (zH zIX):=jG (by decide +kernel)
theorem zM8:zL ["byte"] ["byte"] (zH zFZ):=jG (by decide +kernel)
theorem zQj:zL ["byte"] ["byte"] (zH zIY):=jG (by decide +kernel)
theorem zGA:zL ["byte","signs_before","kept","turns","room"] ["byte","signs_before","kept","turns"] (zH zDw):=jG (by decide +kernel)
theorem zJh:zL ["byte","kept"] ["byte","kept"] (zH zCm):=jG (by decide +kernel)
theorem zCJ:zL ["text","begin","turns","kept","place"] ["text","begin","turns"] (zH zIZ):=jG (by decide +kernel)
theorem zM9:zL ["signs"] ["signs"] (zH zFa):=jG (by decide +kernel)
theorem zSp:zL ["text","turns"] ["text","turns"] (zH zLV):=jG (by decide +kernel)
theorem zDd:zL ["world","g","refused"] ["world","g"] (zH zAn):=jG (by decide +kernel)
theorem zD8:zL ["world","g","sign","refused"] ["world","g","sign"] (zH zBm):=jG (by decide +kernel)
theorem zD9:zL ["world","g","first","n","refused"] ["world","g","first","n"] (zH zBn):=jG (by decide +kernel)
theorem zLW:zL ["w"] ["w"] (zH zDx):=jG (by decide +kernel)
theorem zBy:zL ["world","g","w","first","refused","places"] ["world","g","w","first"] (zH zCn):=jG (by decide +kernel)
theorem zEA:zL ["world","g","w","refused"] ["world","g","w"] (zH zBo):=jG (by decide +kernel)
theorem zWC:zL ["a","b"] ["a","b"] (zH zSo):=jG (by decide +kernel)
theorem zOB:zL ["a","number"] ["a","number"] (zH zGr):=jG (by decide +kernel)
theorem zUM:zL ["a","b"] ["a","b"] (zH zN8):=jG (by decide +kernel)
theorem zGy:zL ["a","turns","size","lower"] ["a","turns"] (zH zIa):=jG (by decide +kernel)
theorem zFI:zL ["turns","powers"] ["turns"] (zH zCo):=jG (by decide +kernel)
theorem zGB:zL ["a","b","turns","product","number"] ["a","b","turns"] (zH zN9):=jG (by decide +kernel)
theorem zEw:zL ["a","turns","powers","mirrored","k","number"] ["a","turns"] (zH zOA):=jG (by decide +kernel)
theorem zQk:zL ["a","b","turns"] ["a","b","turns"] (zH zIb):=jG (by decide +kernel)
theorem zQl:zL ["a","weights"] ["a","weights"] (zH zIc):=jG (by decide +kernel)
theorem zLX:zL ["p","q","square"] ["p","q","square"] (zH zDy):=jG (by decide +kernel)
theorem qO:zL ["self","turns","direction","powers","k","turned_back","power"] ["self","turns","direction"] (zH qH):=jG (by decide +kernel)
theorem Jd:zL ["self","a","b","way"] ["self","a","b"] (zH ZH):=jG (by decide +kernel)
theorem zOC:zL ["self","turns"] ["self","turns"] (zH zGs):=jG (by decide +kernel)
theorem zLY:zL ["self","sign"] ["self","sign"] (zH zDz):=jG (by decide +kernel)
theorem zFE:zL ["self","letter"] ["self","letter"] (zH Zy):=jG (by decide +kernel)
theorem zOD:zL ["self"] ["self"] (zH zGt):=jG (by decide +kernel)
theorem zFJ:zL ["self","last"] ["self"] (zH zCp):=jG (by decide +kernel)
theorem zNA:zL ["self"] ["self"] (zH zFb):=jG (by decide +kernel)
theorem zAs:zL ["signs","turns","pen","sign"] ["signs","turns"] (zH zBp):=jG (by decide +kernel)
theorem JF:zL ["signs","place","sign"] ["signs"] (zH QF):=jG (by decide +kernel)
theorem Z0:zL ["signs","turns","direction","pen","outlook","best","behind","sign"] ["signs","turns","direction"] (zH zGu):=jG (by decide +kernel)
theorem jA:zL ["signs","turns","pen","begun","sign","total","turn","begins"] ["signs","turns"] (zH zD0):=jG (by decide +kernel)
theorem qy:zL ["signs","turns","most","pen","first_there","place","sign","begin"] ["signs","turns","most"] (zH zAo):=jG (by decide +kernel)
theorem QH:zL ["signs","turns","first","most","pen","steps","place","sign"] ["signs","turns","first","most"] (zH zD1):=jG (by decide +kernel)
theorem zEB:zL ["world","g","i","refused"] ["world","g","i"] (zH zBq):=jG (by decide +kernel)
theorem zAt:zL ["world","g","k","refused","places"] ["world","g","k"] (zH zBr):=jG (by decide +kernel)
theorem zCz:zL ["world","g","direction","refused","best"] ["world","g","direction"] (zH zD2):=jG (by decide +kernel)
theorem zEC:zL ["world","g","refused"] ["world","g"] (zH zBs):=jG (by decide +kernel)
theorem zAu:zL ["world","g","most","refused","met"] ["world","g","most"] (zH zBt):=jG (by decide +kernel)
theorem ZL:zL ["world","g","first","most","refused","steps","numbers","step"] ["world","g","first","most"] (zH zCq):=jG (by decide +kernel)
theorem zGz:zL ["self","place"] ["self","place"] (zH J6):=jG (by decide +kernel)
theorem zC0:zL ["turns","digit"] ["turns"] (zH Jc):=jG (by decide +kernel)
theorem zG0:zL ["turns","first_row","rules","text","letter"] ["turns","first_row","rules"] (zH zId):=jG (by decide +kernel)
theorem ZI:zL ["text","line","place"] ["text","line"] (zH Zz):=jG (by decide +kernel)
theorem ZA:zL ["text","farthest","turns","line","same"] ["text"] (zH zD3):=jG (by decide +kernel)
theorem zFf:zL ["text","begin","turns","end","row"] ["text","begin","turns"] (zH zGv):=jG (by decide +kernel)
theorem zFK:zL ["text","place","letter_before","letter"] ["text","place","letter_before"] (zH zCr):=jG (by decide +kernel)
theorem qZ:zL ["text","turns","place","first_row","rules","letter","row"] ["text"] (zH zFc):=jG (by decide +kernel)
theorem zIf:zL ["world","turns"] ["world","turns"] (zH zBu):=jG (by decide +kernel)
theorem zLZ:zL ["world","text"] ["world","text"] (zH zD4):=jG (by decide +kernel)
theorem zJi:zL ["world","letter","text"] ["world","letter","text"] (zH zCs):=jG (by decide +kernel)
theorem zBz:zL ["world","text","parts","fault"] ["world","text"] (zH zCt):=jG (by decide +kernel)
theorem zED:zL ["world","text"] ["world"] (zH zBv):=jG (by decide +kernel)
theorem zFg:zL ["row","tally","sign"] ["row"] (zH zGw):=jG (by decide +kernel)
theorem zHM:zL ["tally","added","times","sign"] ["tally","added","times"] (zH zFd):=jG (by decide +kernel)
theorem zEE:zL ["self","first_row","rules","letter"] ["self","first_row","rules"] (zH zBw):=jG (by decide +kernel)
theorem zHa:zL ["self","g"] ["self","g"] (zH zAp):=jG (by decide +kernel)
theorem Q4:zL ["self","tally","following","sign"] ["self","tally"] (zH J7):=jG (by decide +kernel)
theorem zEF:zL ["signs","rules","following","sign"] ["signs","rules"] (zH zFe):=jG (by decide +kernel)
theorem JG:zL ["first_row","rules","g","signs","generation"] ["first_row","rules","g"] (zH zCu):=jG (by decide +kernel)
theorem zLa:zL ["self"] ["self"] (zH zD5):=jG (by decide +kernel)
theorem zIg:zL ["self","turns","first_row","rules"] ["self","turns","first_row","rules"] (zH zBx):=jG (by decide +kernel)
theorem zHb:zL ["self","row"] ["self","row"] (zH zAq):=jG (by decide +kernel)
theorem zCK:zL ["self","letter","row","rules"] ["self","letter","row"] (zH J8):=jG (by decide +kernel)
theorem zG1:zL ["self","g"] ["self","g"] (zH J9):=jG (by decide +kernel)
theorem zGC:zL ["self","g"] ["self","g"] (zH Q3):=jG (by decide +kernel)
theorem zG2:zL ["self","g"] ["self","g"] (zH zAA):=jG (by decide +kernel)
theorem zJj:zL ["self","numbers"] ["self","numbers"] (zH zCv):=jG (by decide +kernel)
theorem zHc:zL ["self"] ["self"] (zH zAr):=jG (by decide +kernel)
theorem zJk:zL ["self"] ["self"] (zH zCw):=jG (by decide +kernel)
theorem zAv:zL ["self","size"] ["self"] (zH QG):=jG (by decide +kernel)
theorem zFL:zL ["world","call","cursor","letter"] ["world","call","cursor"] (zH zCx):=jG (by decide +kernel)
theorem JH:zL ["world","call","cursor","g","first"] ["world","call","cursor"] (zH zCy):=jG (by decide +kernel)
theorem zC1:zL ["world","call","cursor","g","number"] ["world","call","cursor"] (zH zD6):=jG (by decide +kernel)
theorem zIh:zL ["world","cursor","call"] ["world","cursor"] (zH zGx):=jG (by decide +kernel)
theorem zCL:zL ["calls","world","cursor","told","numbers"] ["calls"] (zH zF9):=jG (by decide +kernel)
theorem bd0 {K:Fg}{x q:Str}{st:Stmt}{f:Addr}{fd:FuncData}{ps:List Str}(F:Fun K x q st f fd)(hl:ps.length=0:=by rfl)(h:∀ (kV doc pm:Value)(an:Option Addr)(cdv ct:Value),bindArgs (PySem.W.fnOf x q (Q1 st) (jq st) (zH st) .none kV doc pm an cdv ct) ⟨[],[]⟩=pure (ps.zip []):=by intros;rfl):Binds K fd ps []:=F.binds fun a b c d e g us hu=>match us,hu.trans hl with | [],_=>h a b c d e g
theorem bd1 {K:Fg}{x q:Str}{st:Stmt}{f:Addr}{fd:FuncData}{ps:List Str}(F:Fun K x q st f fd)(hl:ps.length=1:=by rfl)(h:∀ (kV doc pm:Value)(an:Option Addr)(cdv ct u0:Value),bindArgs (PySem.W.fnOf x q (Q1 st) (jq st) (zH st) .none kV doc pm an cdv ct) ⟨[u0],[]⟩=pure (ps.zip [u0]):=by intros;rfl):Binds K fd ps []:=F.binds fun a b c d e g us hu=>match us,hu.trans hl with | [u0],_=>h a b c d e g u0
theorem bd2 {K:Fg}{x q:Str}{st:Stmt}{f:Addr}{fd:FuncData}{ps:List Str}(F:Fun K x q st f fd)(hl:ps.length=2:=by rfl)(h:∀ (kV doc pm:Value)(an:Option Addr)(cdv ct u0 u1:Value),bindArgs (PySem.W.fnOf x q (Q1 st) (jq st) (zH st) .none kV doc pm an cdv ct) ⟨[u0,u1],[]⟩=pure (ps.zip [u0,u1]):=by intros;rfl):Binds K fd ps []:=F.binds fun a b c d e g us hu=>match us,hu.trans hl with | [u0,u1],_=>h a b c d e g u0 u1
theorem bd3 {K:Fg}{x q:Str}{st:Stmt}{f:Addr}{fd:FuncData}{ps:List Str}(F:Fun K x q st f fd)(hl:ps.length=3:=by rfl)(h:∀ (kV doc pm:Value)(an:Option Addr)(cdv ct u0 u1 u2:Value),bindArgs (PySem.W.fnOf x q (Q1 st) (jq st) (zH st) .none kV doc pm an cdv ct) ⟨[u0,u1,u2],[]⟩=pure (ps.zip [u0,u1,u2]):=by intros;rfl):Binds K fd ps []:=F.binds fun a b c d e g us hu=>match us,hu.trans hl with | [u0,u1,u2],_=>h a b c d e g u0 u1 u2
theorem bd4 {K:Fg}{x q:Str}{st:Stmt}{f:Addr}{fd:FuncData}{ps:List Str}(F:Fun K x q st f fd)(hl:ps.length=4:=by rfl)(h:∀ (kV doc pm:Value)(an:Option Addr)(cdv ct u0 u1 u2 u3:Value),bindArgs (PySem.W.fnOf x q (Q1 st) (jq st) (zH st) .none kV doc pm an cdv ct) ⟨[u0,u1,u2,u3],[]⟩=pure (ps.zip [u0,u1,u2,u3]):=by intros;rfl):Binds K fd ps []:=F.binds fun a b c d e g us hu=>match us,hu.trans hl with | [u0,u1,u2,u3],_=>h a b c d e g u0 u1 u2 u3
set_option genInjectivity false in
structure Ad where
 qJ:Addr
 jB:Addr
 Q5:Addr
 zr:Addr
 zy:Addr
 qB:Addr
 zER:Addr
 za:Addr
 ZD:Addr
 QM:FuncData
 QN:Addr
 zAG:FuncData
 ZM:Addr
 JI:FuncData
 Q6:Addr
 zAz:FuncData
 zA0:Addr
 zC9:FuncData
 zA1:Addr
 zDA:FuncData
 zES:Addr
 zGN:FuncData
 zET:Addr
 zGO:FuncData
 zA2:Addr
 zDB:FuncData
 zEU:Addr
 zGP:FuncData
 Jf:Addr
 zBQ:FuncData
 QO:Addr
 zAH:FuncData
 zEV:Addr
 zGQ:FuncData
 zA3:Addr
 zDC:FuncData
 zGR:Addr
 zHu:FuncData
 ju:Addr
 QP:FuncData
 ZN:Addr
 JJ:FuncData
 ZO:Addr
 JK:FuncData
 Jg:Addr
 zBR:FuncData
 QQ:Addr
 zAI:FuncData
 ZP:Addr
 JL:FuncData
 zNW:Addr
 zPz:FuncData
 zCO:Addr
 zEz:FuncData
 zJG:Addr
 zL4:FuncData
 zEW:Addr
 zGS:FuncData
 QR:Addr
 zAJ:FuncData
 zJH:Addr
 zL5:FuncData
 zJI:Addr
 zL6:FuncData
 zEX:Addr
 zGT:FuncData
 zEY:Addr
 zGU:FuncData
 Jh:Addr
 zBS:FuncData
 ZQ:Addr
 JM:FuncData
 qV:Addr
 jI:FuncData
 zCP:Addr
 zE0:FuncData
 Ji:Addr
 zBT:FuncData
 qi:Addr
 jZ:FuncData
 zCQ:Addr
 zE1:FuncData
 QS:Addr
 zAK:FuncData
 zA4:Addr
 zDD:FuncData
 ZR:Addr
 JN:FuncData
 QT:Addr
 zAL:FuncData
 zCR:Addr
 zE2:FuncData
 Jj:Addr
 zBU:FuncData
 jv:Addr
 QU:FuncData
 Jk:Addr
 zBV:FuncData
 ZS:Addr
 JO:FuncData
 ZT:Addr
 JP:FuncData
 Jl:Addr
 zBW:FuncData
 ZU:Addr
 JQ:FuncData
 ZV:Addr
 JR:FuncData
 QV:Addr
 zAM:FuncData
 jc:Addr
 Zl:FuncData
 Jm:Addr
 zBX:FuncData
 zEZ:Addr
 zGV:FuncData
 qj:Addr
 ja:FuncData
 Jn:Addr
 zBY:FuncData
 zCS:Addr
 zE3:FuncData
 QW:Addr
 zAN:FuncData
 zA5:Addr
 zDE:FuncData
 ZW:Addr
 JS:FuncData
 Jo:Addr
 zBZ:FuncData
 QX:Addr
 zAO:FuncData
 QY:Addr
 zAP:FuncData
 ZX:Addr
 JT:FuncData
 zCT:Addr
 zE4:FuncData
 zA6:Addr
 zDF:FuncData
 ZY:Addr
 JU:FuncData
 jw:Addr
 QZ:FuncData
 jd:Addr
 Zm:FuncData
 zA7:Addr
 zDG:FuncData
 Qa:Addr
 zAQ:FuncData
 Jp:Addr
 zBa:FuncData
 ZZ:Addr
 JV:FuncData
 jx:Addr
 Qb:FuncData
 je:Addr
 Zn:FuncData
 jf:Addr
 Zo:FuncData
 jL:Addr
 ZE:FuncData
 jg:Addr
 Zp:FuncData
 Qc:Addr
 zAR:FuncData
 jy:Addr
 Qd:FuncData
 Qe:Addr
 zAS:FuncData
 jC:Addr
 jn:FuncData
 Qg:Addr
 zAT:FuncData
 Qh:Addr
 zAU:FuncData
 Jq:Addr
 zBb:FuncData
 zCU:Addr
 zE5:FuncData
 zCV:Addr
 zEa:FuncData
 Qi:Addr
 qu:Addr
 zAV:Addr
 zTJ:Addr
 zL7:Addr
 zAW:Addr
 zGW:Addr
 zJJ:Addr
 zGX:Addr
structure Txt (K:Fg)(mg:Y3)(A:Ad):Prop where
 ZF:Fun K "__init__" "Answer.__init__" zCk A.ZD A.QM
 zAX:Fun K "flat" "Answer.flat" zCl A.QN A.zAG
 zDH:Meth K A.qJ "flat" A.QN
 zJ:Fun K "number_alone" "number_alone" zBl A.ZM A.JI
 zP:mg "number_alone" = some (.ref A.ZM)
 zV:Fun K "with_list" "with_list" zFX A.Q6 A.zAz
 qD:mg "with_list" = some (.ref A.Q6)
 Z2:Fun K "with_text" "with_text" zFY A.zA0 A.zC9
 zDI:mg "with_text" = some (.ref A.zA0)
 Z3:Fun K "places_of" "places_of" zAm A.zA1 A.zDA
 zDJ:mg "places_of" = some (.ref A.zA1)
 zl:Fun K "refusal" "refusal" zIW A.zES A.zGN
 jM:mg "refusal" = some (.ref A.zES)
 qk:Fun K "is_step" "is_step" zIX A.zET A.zGO
 Jr:mg "is_step" = some (.ref A.zET)
 qm:Fun K "is_letter" "is_letter" zFZ A.zA2 A.zDB
 Q7:mg "is_letter" = some (.ref A.zA2)
 zA8:Fun K "is_sign" "is_sign" zIY A.zEU A.zGP
 zGY:mg "is_sign" = some (.ref A.zEU)
 Js:Fun K "may_follow" "may_follow" zDw A.Jf A.zBQ
 zEb:mg "may_follow" = some (.ref A.Jf)
 Qj:Fun K "kept_behind" "kept_behind" zCm A.QO A.zAH
 zDK:mg "kept_behind" = some (.ref A.QO)
 zA9:Fun K "row_end" "row_end" zIZ A.zEV A.zGQ
 zGZ:mg "row_end" = some (.ref A.zEV)
 Z4:Fun K "is_paired" "is_paired" zFa A.zA3 A.zDC
 zDL:mg "is_paired" = some (.ref A.zA3)
 zDM:Fun K "is_row" "is_row" zLV A.zGR A.zHu
 zHv:mg "is_row" = some (.ref A.zGR)
 jz:Fun K "length_answer" "length_answer" zAn A.ju A.QP
 zBA:mg "length_answer" = some (.ref A.ju)
 Za:Fun K "count_answer" "count_answer" zBm A.ZN A.JJ
 zB1:mg "count_answer" = some (.ref A.ZN)
 Zb:Fun K "slice_answer" "slice_answer" zBn A.ZO A.JK
 zB2:mg "slice_answer" = some (.ref A.ZO)
 j0:Fun K "is_pattern" "is_pattern" zDx A.Jg A.zBR
 zBc:mg "is_pattern" = some (.ref A.Jg)
 Qk:Fun K "find_answer" "find_answer" zCn A.QQ A.zAI
 zDN:mg "find_answer" = some (.ref A.QQ)
 Zc:Fun K "often_answer" "often_answer" zBo A.ZP A.JL
 zB3:mg "often_answer" = some (.ref A.ZP)
 Jt:Fun K "plus" "plus" zSo A.zNW A.zPz
 zGa:mg "plus" = some (.ref A.zNW)
 jN:Fun K "so_often" "so_often" zGr A.zCO A.zEz
 zAg:mg "so_often" = some (.ref A.zCO)
 zFj:Fun K "minus" "minus" zN8 A.zJG A.zL4
 zL8:mg "minus" = some (.ref A.zJG)
 zBB:Fun K "times_z" "times_z" zIa A.zEW A.zGS
 zGb:mg "times_z" = some (.ref A.zEW)
 qW:Fun K "powers_of_z" "powers_of_z" zCo A.QR A.zAJ
 Ql:mg "powers_of_z" = some (.ref A.QR)
 zFk:Fun K "times" "times" zN9 A.zJH A.zL5
 zL9:mg "times" = some (.ref A.zJH)
 zFl:Fun K "aside" "aside" zOA A.zJI A.zL6
 zMA:mg "aside" = some (.ref A.zJI)
 zEc:Fun K "crossed" "crossed" zIb A.zEX A.zGT
 zJK:mg "crossed" = some (.ref A.zEX)
 j4:Fun K "weighed" "weighed" zIc A.zEY A.zGU
 zCW:mg "weighed" = some (.ref A.zEY)
 Ju:Fun K "is_above_0" "is_above_0" zDy A.Jh A.zBS
 zEd:mg "is_above_0" = some (.ref A.Jh)
 JW:Fun K "__init__" "Outlook.__init__" qH A.ZQ A.JM
 jJ:Fun K "lies_ahead" "Outlook.lies_ahead" ZH A.qV A.jI
 ZJ:Meth K A.jB "lies_ahead" A.qV
 Z9:Fun K "__init__" "Pen.__init__" zGs A.zCP A.zE0
 jV:Fun K "follow" "Pen.follow" zDz A.Ji A.zBT
 j5:Meth K A.Q5 "follow" A.Ji
 jb:Fun K "follow_letter" "Pen.follow_letter" Zy A.qi A.jZ
 Z5:Meth K A.Q5 "follow_letter" A.qi
 zCX:Fun K "move" "Pen.move" zGt A.zCQ A.zE1
 zE6:Meth K A.Q5 "move" A.zCQ
 zAY:Fun K "go_back" "Pen.go_back" zCp A.QS A.zAK
 zDO:Meth K A.Q5 "go_back" A.QS
 zBC:Fun K "state" "Pen.state" zFb A.zA4 A.zDD
 zDP:Meth K A.Q5 "state" A.zA4
 Zd:Fun K "state_behind" "state_behind" zBp A.ZR A.JN
 zB4:mg "state_behind" = some (.ref A.ZR)
 Qm:Fun K "step_places" "step_places" QF A.QT A.zAL
 zDQ:mg "step_places" = some (.ref A.QT)
 zCY:Fun K "farthest" "farthest" zGu A.zCR A.zE2
 zHA:mg "farthest" = some (.ref A.zCR)
 Jv:Fun K "gone_round" "gone_round" zD0 A.Jj A.zBU
 zEe:mg "gone_round" = some (.ref A.Jj)
 j6:Fun K "first_meeting" "first_meeting" zAo A.jv A.QU
 zBD:mg "first_meeting" = some (.ref A.jv)
 Jw:Fun K "steps_from" "steps_from" zD1 A.Jk A.zBV
 zEf:mg "steps_from" = some (.ref A.Jk)
 Ze:Fun K "where_answer" "where_answer" zBq A.ZS A.JO
 zB5:mg "where_answer" = some (.ref A.ZS)
 Zf:Fun K "drawn_answer" "drawn_answer" zBr A.ZT A.JP
 zB6:mg "drawn_answer" = some (.ref A.ZT)
 Jx:Fun K "far_answer" "far_answer" zD2 A.Jl A.zBW
 zEg:mg "far_answer" = some (.ref A.Jl)
 Zg:Fun K "round_answer" "round_answer" zBs A.ZU A.JQ
 zB7:mg "round_answer" = some (.ref A.ZU)
 Zh:Fun K "meets_answer" "meets_answer" zBt A.ZV A.JR
 zB8:mg "meets_answer" = some (.ref A.ZV)
 Qn:Fun K "walk_answer" "walk_answer" zCq A.QV A.zAM
 zDR:mg "walk_answer" = some (.ref A.QV)
 qT:Fun K "__init__" "TextFault.__init__" J6 A.jc A.Zl
 jD:Fun K "turns_line" "turns_line" Jc A.Jm A.zBX
 Jy:mg "turns_line" = some (.ref A.Jm)
 zEh:Fun K "text_of" "text_of" zId A.zEZ A.zGV
 zJL:mg "text_of" = some (.ref A.zEZ)
 qr:Fun K "same_at_beginning" "same_at_beginning" Zz A.qj A.ja
 Z6:mg "same_at_beginning" = some (.ref A.qj)
 Jz:Fun K "read_turns" "read_turns" zD3 A.Jn A.zBY
 zEi:mg "read_turns" = some (.ref A.Jn)
 Q8:Fun K "read_row" "read_row" zGv A.zCS A.zE3
 zE7:mg "read_row" = some (.ref A.zCS)
 Qo:Fun K "read_letter" "read_letter" zCr A.QW A.zAN
 zDS:mg "read_letter" = some (.ref A.QW)
 zBE:Fun K "read_text" "read_text" zFc A.zA5 A.zDE
 zFm:mg "read_text" = some (.ref A.zA5)
 Zi:Fun K "start_answer" "start_answer" zBu A.ZW A.JS
 zB9:mg "start_answer" = some (.ref A.ZW)
 J3:Fun K "row_answer" "row_answer" zD4 A.Jo A.zBZ
 zEj:mg "row_answer" = some (.ref A.Jo)
 Qp:Fun K "rule_answer" "rule_answer" zCs A.QX A.zAO
 zDT:mg "rule_answer" = some (.ref A.QX)
 Qq:Fun K "read_answer" "read_answer" zCt A.QY A.zAP
 zDU:mg "read_answer" = some (.ref A.QY)
 Zj:Fun K "write_answer" "write_answer" zBv A.ZX A.JT
 zCA:mg "write_answer" = some (.ref A.ZX)
 Q9:Fun K "tally_of" "tally_of" zGw A.zCT A.zE4
 zE8:mg "tally_of" = some (.ref A.zCT)
 zBF:Fun K "add_times" "add_times" zFd A.zA6 A.zDF
 zFn:mg "add_times" = some (.ref A.zA6)
 JX:Fun K "__init__" "Tallies.__init__" zBw A.ZY A.JU
 Qr:Fun K "tally" "Tallies.tally" zAp A.jw A.QZ
 zBG:Meth K A.zy "tally" A.jw
 Zq:Fun K "behind" "Tallies.behind" J7 A.jd A.Zm
 zAB:Meth K A.zy "behind" A.jd
 zBH:Fun K "rewritten" "rewritten" zFe A.zA7 A.zDG
 zFo:mg "rewritten" = some (.ref A.zA7)
 Qs:Fun K "written_out" "written_out" zCu A.Qa A.zAQ
 zDV:mg "written_out" = some (.ref A.Qa)
 zBd:Fun K "__init__" "World.__init__" zD5 A.Jp A.zBa
 qb:Fun K "become" "World.become" zBx A.ZZ A.JV
 jH:Meth K A.qB "become" A.ZZ
 Qt:Fun K "set_row" "World.set_row" zAq A.jx A.Qb
 zBI:Meth K A.qB "set_row" A.jx
 Zr:Fun K "set_rule" "World.set_rule" J8 A.je A.Zn
 zAC:Meth K A.qB "set_rule" A.je
 jh:Fun K "tally_at" "World.tally_at" J9 A.jf A.Zo
 Zs:Meth K A.qB "tally_at" A.jf
 qc:Fun K "length_at" "World.length_at" Q3 A.jL A.ZE
 jO:Meth K A.qB "length_at" A.jL
 zf:Fun K "signs_at" "World.signs_at" zAA A.jg A.Zp
 zm:Meth K A.qB "signs_at" A.jg
 zAZ:Fun K "__init__" "Cursor.__init__" zCv A.Qc A.zAR
 Qu:Fun K "at_end" "Cursor.at_end" zAr A.jy A.Qd
 zBJ:Meth K A.za "at_end" A.jy
 zh:Fun K "take" "Cursor.take" zCw A.Qe A.zAS
 zq:Meth K A.za "take" A.Qe
 z0:Fun K "take_text" "Cursor.take_text" QG A.jC A.jn
 qA:Meth K A.za "take_text" A.jC
 Qv:Fun K "making_call" "making_call" zCx A.Qg A.zAT
 zDW:mg "making_call" = some (.ref A.Qg)
 Qw:Fun K "asking_call" "asking_call" zCy A.Qh A.zAU
 zDX:mg "asking_call" = some (.ref A.Qh)
 J4:Fun K "going_call" "going_call" zD6 A.Jq A.zBb
 zEk:mg "going_call" = some (.ref A.Jq)
 zCZ:Fun K "one_call" "one_call" zGx A.zCU A.zE5
 zHB:mg "one_call" = some (.ref A.zCU)
 zGc:Fun K "answers" "answers" zF9 A.zCV A.zEa
 zJM:mg "answers" = some (.ref A.zCV)
 zGd:mg "Answer" = some (.ref A.qJ)
 qR:Cls K A.qJ
 jP:zp K A.qJ "number"
 qP:zp K A.qJ "listed"
 qX:zp K A.qJ "text"
 zGe:Mk K A.qJ A.ZD
 zJN:mg "Outlook" = some (.ref A.jB)
 Qx:Cls K A.jB
 Zt:zp K A.jB "wholes"
 Qy:zp K A.jB "roots"
 Zu:zp K A.jB "square"
 zJO:Mk K A.jB A.ZQ
 zOX:mg "Pen" = some (.ref A.Q5)
 qK:Cls K A.Q5
 JA:zp K A.Q5 "moves"
 JY:zp K A.Q5 "turnings"
 zt:zp K A.Q5 "place"
 jQ:zp K A.Q5 "turn"
 zAh:zp K A.Q5 "kept"
 JB:zp K A.Q5 "steps"
 Qz:zp K A.Q5 "letters"
 zOY:Mk K A.Q5 A.zCP
 Z7:mg "TextFault" = some (.ref A.zr)
 qE:∀ h,K.In h->zTP h A.zr A.jc "place"
 QA:PySem.W.keepIn K (.ref A.zr)=true
 zJP:mg "Tallies" = some (.ref A.zy)
 jR:Cls K A.zy
 qF:zp K A.zy "by_letter"
 zi:zp K A.zy "by_generation"
 zJQ:Mk K A.zy A.ZY
 zOZ:mg "World" = some (.ref A.qB)
 zW:Cls K A.qB
 zx:zp K A.qB "turns"
 qG:zp K A.qB "first_row"
 jE:zp K A.qB "rules"
 qt:zp K A.qB "tallies"
 zOa:Mk K A.qB A.Jp
 zHU:mg "NoSuchCall" = some (.ref A.zER)
 zMB:mg "Cursor" = some (.ref A.za)
 zj:Cls K A.za
 qz:zp K A.za "numbers"
 qL:zp K A.za "place"
 zMC:Mk K A.za A.Qc
 JC:∃ t,mg "LAST_GENERATION" = some (.int 64 t)
 jS:∃ t,mg "FEWEST_THAT_DO_NOT_FIT" = some (.int 18446744073709551616 t)
 zAa:mg "TURN_COUNTS" = some (.ref A.Qi)
 Q0:∀ H,SqT K H A.Qi ([V.int 3,V.int 4,V.int 5,V.int 6,V.int 8,V.int 10,V.int 12])
 zDY:∃ t,mg "LONGEST_ROW" = some (.int 255 t)
 zYy:∃ t,mg "GO" = some (.int 62 t)
 zFp:∃ t,mg "TURN_MORE" = some (.int 43 t)
 zFq:∃ t,mg "TURN_LESS" = some (.int 45 t)
 zBe:∃ t,mg "HALF_ROUND" = some (.int 124 t)
 zKp:∃ t,mg "KEEP" = some (.int 91 t)
 zCa:∃ t,mg "GO_BACK" = some (.int 93 t)
 jl:mg "SIGNS_BESIDE_LETTERS" = some (.ref A.qu)
 jm:∀ H,SqT K H A.qu ([V.int 62,V.int 43,V.int 45,V.int 124,V.int 91,V.int 93])
 zBK:∃ t,mg "LONGEST_SLICE" = some (.int 10000 t)
 JD:∃ t,mg "LONGEST_PATTERN" = some (.int 64 t)
 zBf:mg "ORIGIN" = some (.ref A.zAV)
 zAb:∀ H,SqT K H A.zAV ([V.int 0,V.int 0,V.int 0,V.int 0])
 zWc:mg "ONE" = some (.ref A.zTJ)
 zWd:∀ H,SqT K H A.zTJ ([V.int 1,V.int 0,V.int 0,V.int 0])
 zOb:mg "SIZES" = some (.ref A.zL7)
 zOc:∀ m v,(m,v)∈([(3,2),(4,2),(5,4),(6,2),(8,4),(10,4),(12,4)]:List (Int×Int))->KG K A.zL7 m (.int v)
 zDZ:mg "NEXT_POWERS" = some (.ref A.zAW)
 zAc:∀ m l,(m,l)∈([(3,[-1,-1,0,0]),(4,[-1,0,0,0]),(5,[-1,-1,-1,-1]),(6,[-1,1,0,0]),(8,[-1,0,0,0]),(10,[-1,1,-1,1]),(12,[-1,0,1,0])]:RL)->∃ b,KG K A.zAW m (.ref b)/\∀ H,SqT K H b (l.map V.int)
 zMD:mg "WHOLES" = some (.ref A.zGW)
 zME:∀ m l,(m,l)∈([(3,[2,-1,0,0]),(4,[1,0,0,0]),(5,[4,-1,-1,-1]),(6,[2,1,0,0]),(8,[2,0,0,0]),(10,[4,1,-1,1]),(12,[2,0,1,0])]:RL)->∃ b,KG K A.zGW m (.ref b)/\∀ H,SqT K H b (l.map V.int)
 zOd:mg "ROOTS" = some (.ref A.zJJ)
 zOe:∀ m l,(m,l)∈([(3,[0,0,0,0]),(4,[0,0,0,0]),(5,[0,1,-1,-1]),(6,[0,0,0,0]),(8,[0,1,0,-1]),(10,[0,1,1,-1]),(12,[0,1,0,0])]:RL)->∃ b,KG K A.zJJ m (.ref b)/\∀ H,SqT K H b (l.map V.int)
 zJR:mg "SQUARES" = some (.ref A.zGX)
 zJS:∀ m v,(m,v)∈([(3,1),(4,1),(5,5),(6,1),(8,2),(10,5),(12,3)]:List (Int×Int))->KG K A.zGX m (.int v)
 zBg:∃ t,mg "MOST_STEPS" = some (.int 1000 t)
 JE:∃ t,mg "LINE_FEED" = some (.int 10 t)
 zHw:∃ t,mg "EQUALS" = some (.int 61 t)
 zCB:∃ t,mg "LONGEST_TEXT" = some (.int 65536 t)
 zMF:∃ t,mg "START" = some (.int 1 t)
 zWe:∃ t,mg "ROW" = some (.int 2 t)
 zTK:∃ t,mg "RULE" = some (.int 3 t)
 zTL:∃ t,mg "READ" = some (.int 4 t)
 zOf:∃ t,mg "WRITE" = some (.int 5 t)
 zHx:∃ t,mg "LENGTH" = some (.int 6 t)
 zOg:∃ t,mg "COUNT" = some (.int 7 t)
 zOh:∃ t,mg "SLICE" = some (.int 8 t)
 zTM:∃ t,mg "FIND" = some (.int 9 t)
 zOi:∃ t,mg "OFTEN" = some (.int 10 t)
 zMG:∃ t,mg "WHERE" = some (.int 11 t)
 zOj:∃ t,mg "DRAWN" = some (.int 12 t)
 zWf:∃ t,mg "FAR" = some (.int 13 t)
 zOk:∃ t,mg "ROUND" = some (.int 14 t)
 zOl:∃ t,mg "MEETS" = some (.int 15 t)
 zTN:∃ t,mg "WALK" = some (.int 16 t)
 QB:mg "len" = none
 zJT:mg "range" = none
 zMH:mg "sorted" = none
 zWg:mg "sum" = none
 zWh:mg "max" = none
 zWi:mg "ord" = none
 zWj:mg "str" = none
 zTO:mg "dict" = none
 zNX:mg "list" = none
 zUf:mg "abs" = none
 j7:mg "enumerate" = none
section
variable {K:Fg}{h:Heap}{mg:Y3}{x q:Str}{st:Stmt}{f C:Addr}{oc:Value}{od an:Option Addr}{sl:Array (Option Value)}{kV doc pm cd ct:Value}
open PySem.W
def MF (K:Fg)(C:Addr)(x q:Str)(st:Stmt):Prop:=∃ f fd,Fun K x q st f fd/\Meth K C x f
def MI (K:Fg)(C:Addr)(q:Str)(st:Stmt):Prop:=∃ f fd,Fun K "__init__" q st f fd/\Mk K C f
def FF (K:Fg)(mg:Y3)(x:Str)(st:Stmt):Prop:=∃ f fd,mg x=some (.ref f)/\Fun K x x st f fd
theorem fA (X:K.In h)(G:h.Ns mainGlobals mg)(a:nsIn K mainGlobals x=some (some (.ref f)):=by k_is)(l:K.lookup f=some ⟨oc,od,.func (fnOf x x (Q1 st) (jq st) (zH st) .none kV doc pm an cd ct),sl⟩:=by k_is)(c:codeIn K cd x=true:=by k_is)(k:keepIn K (.ref f)=true:=by k_is):FF K mg x st:=⟨f,_,mg_of X G a,zO4 l c k⟩
theorem mfA (_:K.In h)(a:findIn K (.ref C) x=some (some (.ref f)):=by k_is)(i:isFn K (.ref f)=true:=by k_is)(l:K.lookup f=some ⟨oc,od,.func (fnOf x q (Q1 st) (jq st) (zH st) .none kV doc pm an cd ct),sl⟩:=by k_is)(c:codeIn K cd q=true:=by k_is)(k:keepIn K (.ref f)=true:=by k_is):MF K C x q st:=⟨f,_,zO4 l c k,⟨a,i,k⟩⟩
theorem miA (_:K.In h)(a:findIn K (.ref C) "__init__" = some (some (.ref f)):=by k_is)(i:isFn K (.ref f)=true:=by k_is)(l:K.lookup f=some ⟨oc,od,.func (fnOf "__init__" q (Q1 st) (jq st) (zH st) .none kV doc pm an cd ct),sl⟩:=by k_is)(c:codeIn K cd q=true:=by k_is)(k:keepIn K (.ref f)=true:=by k_is)(mk:makesIn K C=true:=by k_is)(kc:keepIn K (.ref C)=true:=by k_is):MI K C q st:=⟨f,_,zO4 l c k,⟨mk,a,i,kc⟩⟩
def CN (K:Fg)(mg:Y3)(x:Str)(C:Addr):Prop:=mg x=some (.ref C)/\Cls K C
theorem cnA (X:K.In h)(G:h.Ns mainGlobals mg)(a:nsIn K mainGlobals x=some (some (.ref C)):=by k_is)(pg:plainGet K C Str.empty=true:=by k_is)(hd:hasDictIn K C=true:=by k_is)(po:plainOver K C=true:=by k_is)(sa:findIn K (.ref C) "__setattr__" = some (some (.builtin "object.__setattr__")):=by k_is):CN K mg x C:=⟨mg_of X G a,pg,hd,po,sa⟩
theorem naA (_:K.In h)(a:findIn K (.ref C) x=some none:=by k_is):zp K C x:=a
theorem exA (X:K.In h)(G:h.Ns mainGlobals mg)(a:nsIn K mainGlobals x=some (some (.ref C)):=by k_is)(kc:keepIn K (.ref C)=true:=by k_is)(_:findIn K (.ref C) "__init__" = some (some (.ref f)):=by k_is)(l:K.lookup f=some ⟨oc,od,.func (fnOf "__init__" q (Q1 st) (jq st) (zH st) .none kV doc pm an cd ct),sl⟩:=by k_is)(c:codeIn K cd q=true:=by k_is)(k:keepIn K (.ref f)=true:=by k_is)(z:zYh K C f "place" = true:=by kernel_rfl):∃ C f d,mg x=some (.ref C)/\Fun K "__init__" q st f d/\(∀ h,K.In h->zTP h C f "place")/\keepIn K (.ref C)=true:=⟨C,f,_,mg_of X G a,zO4 l c k,zVt z,kc⟩
end
end PT
namespace PT
open PySem PySem.Spec PyProof.Rows L2 XC
def zXw (K:Fg)(x:Str)(i:Int):Bool:=match PySem.W.nsIn K mainGlobals x with
 | some (some (.int j _))=>j == i
 | _=>false
def zVJ (K:Fg)(x:Str):Bool:=match PySem.W.nsIn K mainGlobals x with
 | some none=>true
 | _=>false
def intsOf:List Value->Option (List Int)
 | []=>some []
 | .int i _ :: r=>(intsOf r).map (i :: ·)
 | _=>none
def zXx (K:Fg)(x:Str)(l:List Int):Bool:=match PySem.W.nsIn K mainGlobals x with
 | some (some (.ref a))=>(match K.lookup a with
   | some o=>(match o.cls,o.data with
     | .type n,.seq its _=>n == "tuple" && intsOf its.toList == some l && decide (its.size<=1000)
     | _,_=>false)
   | none=>false)
 | _=>false
section
variable {K:Fg}{h:Heap}{mg:Y3}
theorem qg (X:K.In h)(G:h.Ns mainGlobals mg){x:Str}{i:Int}(q:zXw K x i=true):∃ t,mg x=some (.int i t):=by
 unfold zXw at q;split at q
 . rename_i j t e;have:=PySem.W.mg_of X G e;exact ⟨t,by rw [this,of_decide_eq_true (show decide (j=i)=true by simpa using q)]⟩
 . cases q
theorem none_of (X:K.In h)(G:h.Ns mainGlobals mg){x:Str}(q:zVJ K x=true):mg x=none:=by
 unfold zVJ at q;split at q
 . rename_i e;exact PySem.W.mg_none_of X G e
 . cases q
theorem zOE:∀ {vs:List Value}{l:List Int},intsOf vs=some l->Vals (l.map V.int) vs
 | [],l,h=>by cases h;exact .nil
 | v :: vs,l,h=>by
   cases v with
   | int i t =>unfold intsOf at h;obtain ⟨r,hr,rfl⟩:=Option.map_eq_some_iff.mp h;exact .cons ⟨t,rfl⟩ (zOE hr)
   | _=>cases h
theorem zPe (X:K.In h)(G:h.Ns mainGlobals mg){x:Str}{l:List Int}(q:zXx K x l=true):∃ a,mg x=some (.ref a)/\∀ H,SqT K H a (l.map V.int):=by
 unfold zXx at q;split at q
 . rename_i a e;refine ⟨a,PySem.W.mg_of X G e,fun H=>.inr ?_⟩;split at q
   . rename_i o ho;split at q
     . rename_i n its m e1 e2;simp only [Bool.and_eq_true,beq_iff_eq,decide_eq_true_eq] at q;obtain ⟨⟨q1,q2⟩,q3⟩:=q;have:sizeLine=16777216:=sizeLine_eq;exact ⟨o,its,m,ho,by rw [e1,q1],e2,by omega,zOE q2⟩
     . cases q
   . cases q
 . cases q
def zPf:List DictEntry->Option (List (Int×Value))
 | []=>some []
 | e :: r=>match e.key with
   | .int k _=>if e.hash=hashInt k then (zPf r).map ((k,e.val) :: ·) else none
   | _=>none
def zLb:List (Int×Value)->Option (List (Int×Int))
 | []=>some []
 | (k,.int v _) :: r=>(zLb r).map ((k,v) :: ·)
 | _=>none
def zUN (K:Fg)(a:Addr):Option (List Int):=match K.lookup a with
 | some o=>(match o.cls,o.data with
   | .type n,.seq its _=>if n == "tuple" && decide (its.size<=1000) then intsOf its.toList else none
   | _,_=>none)
 | none=>none
def zLc (K:Fg):List (Int×Value)->Option (RL)
 | []=>some []
 | (k,.ref b) :: r=>(match zUN K b with
   | some l=>(zLc K r).map ((k,l) :: ·)
   | none=>none)
 | _=>none
def dictAt (K:Fg)(x:Str):Option (Addr×List (Int×Value)):=match PySem.W.nsIn K mainGlobals x with
 | some (some (.ref a))=>(match K.lookup a with
   | some o=>(match o.cls,o.dict,o.slots.size,o.data with
     | .type n,none,0,.dict es _=>if n == "dict" then (zPf es.toList).map fun kvs=>(a,kvs) else none
     | _,_,_,_=>none)
   | none=>none)
 | _=>none
def zZE (K:Fg)(x:Str)(l:List (Int×Int)):Bool:=match dictAt K x with
 | some z=>zLb z.2 == some l && decide ((z.2.map (·.1)).Nodup)
 | none=>false
def zZF (K:Fg)(x:Str)(l:RL):Bool:=match dictAt K x with
 | some z=>zLc K z.2 == some l && decide ((z.2.map (·.1)).Nodup)
 | none=>false
theorem zSq:∀ {es:List DictEntry}{kvs:List (Int×Value)},zPf es=some kvs->zUw es kvs
 | [],kvs,h=>by cases h;exact .nil
 | e :: es,kvs,h=>by
   unfold zPf at h;split at h
   . rename_i k t ek;split at h
     . rename_i hh;obtain ⟨r,hr,rfl⟩:=Option.map_eq_some_iff.mp h;exact .cons ⟨hh,⟨t,ek⟩,rfl⟩ (zSq hr)
     . cases h
   . cases h
theorem zSr (X:K.In h)(G:h.Ns mainGlobals mg){x:Str}{a:Addr}{kvs:List (Int×Value)}(q:dictAt K x=some (a,kvs))(nd:(kvs.map (·.1)).Nodup):mg x=some (.ref a)/\KD K a kvs:=by
 unfold dictAt at q;split at q
 . rename_i a' e;split at q
   . rename_i o ho;split at q
     . rename_i n es ep e1 e2 e3 e4;split at q
       . rename_i hn;obtain ⟨kv,hk,he⟩:=Option.map_eq_some_iff.mp q;simp only [Prod.mk.injEq] at he;obtain ⟨rfl,rfl⟩:=he;refine ⟨PySem.W.mg_of X G e,o,es,ep,ho,⟨?_,e2,?_⟩,e4,zSq hk,nd⟩
         . rw [e1,of_decide_eq_true (show decide (n = "dict")=true by simpa using hn)]
         . exact Array.eq_empty_of_size_eq_zero e3
       . cases q
     . cases q
   . cases q
 . cases q
theorem zOF {β:Type}:∀ {l:List (Int×β)}{m:Int}{v:β},(l.map (·.1)).Nodup->(m,v)∈l->(l.find? fun kv=>decide (kv.1=m)).map (·.2)=some v
 | (k,u) :: l,m,v,nd,h=>by
   rw [List.map_cons,List.nodup_cons] at nd;rw [List.find?_cons];rcases List.mem_cons.mp h with e | h
   . cases e;simp
   . have hk:¬ k=m:=fun z=>nd.1 (by rw [z];exact List.mem_map.mpr ⟨(m,v),h,rfl⟩);simp only [hk,decide_false];exact zOF nd.2 h
theorem zIi:∀ {kvs:List (Int×Value)}{l:List (Int×Int)}{m v:Int},zLb kvs=some l->(m,v)∈l->∃ t,(m,Value.int v t)∈kvs
 | [],l,m,v,h,hm=>by cases h;cases hm
 | (k,u) :: kvs,l,m,v,h,hm=>by
   cases u with
   | int i t =>
     unfold zLb at h;obtain ⟨r,hr,rfl⟩:=Option.map_eq_some_iff.mp h;rcases List.mem_cons.mp hm with e | hm
     . cases e;exact ⟨t,List.mem_cons_self⟩
     . obtain ⟨t',h'⟩:=zIi hr hm;exact ⟨t',List.mem_cons_of_mem _ h'⟩
   | _=>cases h
theorem zUO {a:Addr}{l:List Int}(q:zUN K a=some l)(H:Hp):SqT K H a (l.map V.int):=by
 unfold zUN at q;split at q
 . rename_i o ho;split at q
   . rename_i n its m e1 e2;split at q
     . rename_i hc;simp only [Bool.and_eq_true,beq_iff_eq,decide_eq_true_eq] at hc;have:sizeLine=16777216:=sizeLine_eq;exact .inr ⟨o,its,m,ho,by rw [e1,hc.1],e2,by omega,zOE q⟩
     . cases q
   . cases q
 . cases q
theorem zIj:∀ {kvs:List (Int×Value)}{l:RL}{m:Int}{v:List Int},zLc K kvs=some l->(m,v)∈l->∃ b,(m,Value.ref b)∈kvs/\zUN K b=some v
 | [],l,m,v,h,hm=>by cases h;cases hm
 | (k,u) :: kvs,l,m,v,h,hm=>by
   cases u with
   | ref b =>
     unfold zLc at h;split at h
     . rename_i w hw;obtain ⟨r,hr,rfl⟩:=Option.map_eq_some_iff.mp h;rcases List.mem_cons.mp hm with e | hm
       . cases e;exact ⟨b,List.mem_cons_self,hw⟩
       . obtain ⟨b',h1,h2⟩:=zIj hr hm;exact ⟨b',List.mem_cons_of_mem _ h1,h2⟩
     . cases h
   | _=>cases h
theorem zVK (X:K.In h)(G:h.Ns mainGlobals mg){x:Str}{l:List (Int×Int)}(q:zZE K x l=true):∃ a,mg x=some (.ref a)/\∀ m v,(m,v)∈l->KG K a m (.int v):=by
 unfold zZE at q;split at q
 . rename_i z e;obtain ⟨a,kvs⟩:=z;simp only [Bool.and_eq_true,beq_iff_eq,decide_eq_true_eq] at q;obtain ⟨h1,kd⟩:=zSr X G e q.2;refine ⟨a,h1,fun m v hm=>?_⟩;obtain ⟨t,ht⟩:=zIi q.1 hm;exact ⟨kvs,_,kd,zOF q.2 ht,⟨t,rfl⟩⟩
 . cases q
theorem zSs (X:K.In h)(G:h.Ns mainGlobals mg){x:Str}{l:RL}(q:zZF K x l=true):∃ a,mg x=some (.ref a)/\∀ m l',(m,l')∈l->∃ b,KG K a m (.ref b)/\∀ H,SqT K H b (l'.map V.int):=by
 unfold zZF at q;split at q
 . rename_i z e;obtain ⟨a,kvs⟩:=z;simp only [Bool.and_eq_true,beq_iff_eq,decide_eq_true_eq] at q;obtain ⟨h1,kd⟩:=zSr X G e q.2;refine ⟨a,h1,fun m l' hm=>?_⟩;obtain ⟨b,hb,ht⟩:=zIj q.1 hm;exact ⟨b,⟨kvs,_,kd,zOF q.2 hb,rfl⟩,zUO ht⟩
 . cases q
theorem zWD {x:Str}{C:Addr}(X:K.In h)(G:h.Ns mainGlobals mg)(a:PySem.W.nsIn K mainGlobals x=some (some (.ref C))):∃ C,mg x=some (.ref C):=⟨C,PySem.W.mg_of X G a⟩
theorem zQm {f:Addr}{fd:FuncData}(F:Fun K "answers" "answers" zF9 f fd):∀ (s:Shared)(us:List Value),us.length=["calls"].length->BindsTo s fd ⟨us,[]⟩ ((["calls"]:List Str).zip us):=by obtain ⟨oc,od,kV,doc,pm,an,cdv,ct,osl,rfl,lk,hcd⟩:=F.ex;exact fun s us hl=>.of_eq (match us,hl with | [_],_=>rfl)
end
section
variable {X:Cx}{x:Str}{pos:Pos}{a:Addr}{i:Int}
theorem Z1 (hg:Gl X x)(hm:X.mg x=some (.ref a))(hd:(x == ("__debug__" : Str))=false:=by decide):PE X (.Name x pos) (tC (.ref a)):=zRC (v:=.ref a) hg hm rfl hd
theorem zb (hg:Gl X x)(hm:∃ t,X.mg x=some (.int i t))(hd:(x == ("__debug__" : Str))=false:=by decide):PE X (.Name x pos) (tC (.int i)):=by obtain ⟨t,e⟩:=hm;exact zRC (v:=.int i) hg e ⟨t,rfl⟩ hd
end
theorem zPg (b:Int)(ns:List Int):inV (.int b) (ns.map V.int)=decide (b∈ns):=by
 induction ns with
 | nil=>rfl
 | cons n r ih =>
   have e:inV (.int b) ((n :: r).map V.int)=(eqV (.int n) (.int b) || inV (.int b) (r.map V.int)):=rfl;rw [e,ih];have e2:eqV (.int n) (.int b)=decide (n=b):=by
     first | rfl | (unfold eqV;rfl) | simp [eqV]
   rw [e2];by_cases h:b=n
   . subst h;simp
   . have h' : ¬ n=b:=fun z=>h z.symm;simp [h,h']
theorem zSt (ns:List Int):(ns.map V.int).all zK3=true:=by rw [List.all_eq_true];intro v hv;obtain ⟨n,_,rfl⟩:=List.mem_map.mp hv;rfl
section
variable {P:Program}{w:World}{K:Fg}{mg:Y3}{base:Heap}
theorem okX {x qual:Str}{st:Stmt}{f C:Addr}{fd:FuncData}{N ps:List Str}{k:Nat}{sp:Sp}(F:Fun K x qual st f fd)(S:zL N ps (zH st))(len:∀ vs H Q E,sp vs H Q E->vs.length=ps.length)(hbody:∀ (cdv:Value)(A:Around)(outer:List Env)(s:Shared)(H:Hp)(vs:List V)(Q:VK)(E:XK),zDi k (A.deeper (envOfC qual (zH st) s.heap.objs.size f cdv))->sp vs H Q E->
     ∃ t,PSs (zKF (CXe P w C) P w K mg base N qual (zH st) f cdv A outer s H E) (jq st) t/\t { nx:=fun _ H'=>Q .non H',rt:=Q } (L2.start N vs) H):qM P w K mg base (CXe P w C) (k+1) f fd ps sp:=by
 obtain ⟨oc,od,kV,doc,pm,an,cdv,ct,osl,rfl,lk,hcd⟩:=F.ex;exact zW7 lk hcd S len fun A outer s H vs Q E hr hsp=>hbody cdv A outer s H vs Q E hr hsp
end
def zLd (C:Addr)(H:Hp)(E:XK)(p:Int):Prop:=∀ d H',zz H H'->H' d=some (.xd [("place",.int p)])->E (.ref C) (some d) H'
def zSu (C:Addr):Sp:=fun vs H Q _=>∃ (a t:Addr)(p:Int),vs=[.ref a,.int p]/\H a=some (ExcAt C none t a)/\∀ d,H d=none->d≠a->Q .non (upd (upd H d (.xd [("place",.int p)])) a (ExcAt C (some d) t a))
theorem Z8 {C:Addr}{H0 H1:Hp}{E:XK}{p:Int}(hs:zz H0 H1)(hE:zLd C H0 E p):∀ (a t:Addr),H1 a=none-> zSu C [.ref a,.int p] (upd H1 a (ExcAt C none t a)) (fun r H2=>r=.non/\∃ d t',H2 a=some (ExcAt C (some d) t' a)/\H0 a=none/\E (.ref C) (some d) (drop H2 a)) E0:=by
 intro a t ha;refine ⟨a,t,p,rfl,zB,fun d hd hda=>⟨rfl,d,t,zB,hs.free ha,hE d _ (fun b o e=>?_) ?_⟩⟩
 . have e1:=hs b o e;have hb:b≠a:=zI e1 ha;have hd1:H1 d=none:=by rw [zF hda] at hd;exact hd
   rw [zFT hb,zF hb,zF (zI e1 hd1),zF hb];exact e1
 . rw [zFT hda,zF hda,zB]
variable {P:Program}{w:World}{K:Fg}{mg:Y3}{base:Heap}{A:Ad}
section
def zXy (b:Int):Bool:=decide (65<=b) && decide (b<=90)
inductive zKZ (vs:List V)(H:Hp)(Q:VK)(E:XK):Prop | m (b:Int)(_:vs=[.int b])(_:Q (.bl (zXy b)) H)
theorem zAf (T:Txt K mg A):qM P w K mg base CX0 1 A.zET A.zGO ["byte"] zKZ:=by
 refine T.qk.okc zQi fun vs H Q E h=>?_
 . obtain ⟨b,rfl,k⟩:=h;refine ⟨rfl,fun _ _ _ _ hr=>⟨_,(zE (zN (zKv zDl zDl zM (pv 0) zM))),?_⟩⟩;show zHD _ _ [some (.int b)] H;walk_at "rd";revert k;unfold zXy;by_cases h1:65<=b <;> by_cases h2:b<=90 <;> simp [h1,h2]
inductive zNB (vs:List V)(H:Hp)(Q:VK)(E:XK):Prop | m (b:Int)(_:vs=[.int b])(_:Q (.bl (isLet b)) H)
theorem zBO (T:Txt K mg A):qM P w K mg base CX0 2 A.zA2 A.zDB ["byte"] zNB:=by
 refine T.qm.okc zM8 fun vs H Q E h=>?_
 . obtain ⟨b,rfl,k⟩:=h;refine ⟨rfl,fun _ _ _ s hr=>⟨_,(zE (zN (zWw (cA (zAf T) hr T.Jr T.qk (bd1 T.qk) (zA (pv 0) zD)) (zRE (zKv zDl zDl zM (pv 0) zM))))),?_⟩⟩;show zHD _ _ [some (.int b)] H;walk_at "rd";refine ⟨b,rfl,zXy b,rfl,?_⟩;have e:isLet b=(zXy b || (decide (97<=b) && decide (b<=122))):=rfl;rw [e] at k;cases hb:zXy b with
   | true =>rw [hb] at k;exact zYf k
   | false =>rw [hb] at k;revert k;by_cases h3:97<=b <;> by_cases h4:b<=122 <;> simp [h3,h4]
inductive zQn (vs:List V)(H:Hp)(Q:VK)(E:XK):Prop | m (b:Int)(_:vs=[.int b])(_:Q (.bl (jk b)) H)
theorem zKa (T:Txt K mg A):qM P w K mg base CX0 3 A.zEU A.zGP ["byte"] zQn:=by
 refine T.zA8.okc zQj fun vs H Q E h=>?_
 . obtain ⟨b,rfl,k⟩:=h;refine ⟨rfl,fun _ _ _ s hr=>⟨_,(zE (zN (zWw (cA (zBO T) hr T.Q7 T.qm (bd1 T.qm) (zA (pv 0) zD)) (zRE (zBh zRY (pv 0) (Z1 rfl T.jl) rfl))))),?_⟩⟩;show zHD _ _ [some (.int b)] H;walk_at "rd";refine ⟨b,rfl,isLet b,rfl,?_⟩;have e:jk b=(isLet b || decide (b∈([62,43,45,124,91,93]:List Int))):=rfl;rw [e] at k;cases hb:isLet b with
   | true =>rw [hb] at k;exact zYf k
   | false =>rw [hb] at k;refine zZB ⟨_,.inr (T.jm H),rfl,rfl,?_⟩;have:=zPg b [62,43,45,124,91,93];simp only [List.map] at this;simp only [this,if_false];exact k
inductive zLe (vs:List V)(H:Hp)(Q:VK)(E:XK):Prop | m (b n k m:Int)(_:vs=[.int b,.int n,.int k,.int m])(_:Q (.bl (zMI b n k m)) H)
theorem zLf (T:Txt K mg A):qM P w K mg base CX0 4 A.Jf A.zBQ ["byte","signs_before","kept","turns"] zLe:=by
 refine T.Js.okc zGA fun vs H Q E h=>?_
 . obtain ⟨b,n,k,m,rfl,q⟩:=h;refine ⟨rfl,fun _ _ _ s hr=>⟨_,(zC (z6 (zS QC (pv 0) (zb rfl T.zCa) (zX _)) (zE (zN (zBh zP6 (pv 2) zM (zX _)))) zR) (zC (z6 (L2.PW.pt (zRD (zDa (qQ (cA (zKa T) hr T.zGY T.zA8 (bd1 T.zA8) (zA (pv 0) zD)) (fun _=>rfl))) (zOn (L2.PW.pt (zJ7 (zS QC (pv 0) (zb rfl T.zBe) (zX _)) (zH0 (zS QC (z9 zOr (pv 3) zM) zM (zX _)))))))) (zE (zN zP0)) zR) (zC (sA 4 zGA.nd (z9 zFs (z9 zFs (zb rfl T.zDY) (pv 1)) (pv 2))) (zE (zN (zBh zRO (pv 4) (zTX (zS QC (pv 0) (zb rfl T.zKp) (zX _)) zM zM) (zX _))))))),?_⟩⟩;show Zv _ _ _ [some (.int b),some (.int n),some (.int k),some (.int m),none] H;walk_at "rd";simp only [zYC,true_and,and_true];unfold zMI at q;by_cases h1:b=93
   . rw [if_pos h1] at q;rw [if_pos (decide_eq_true h1)];exact q
   . rw [if_neg h1] at q;rw [if_neg (by simp [h1])];refine ⟨b,rfl,jk b,rfl,?_⟩;cases hs:jk b with
     | false =>rw [hs] at q;simpa using q
     | true =>
       rw [hs] at q;by_cases h2:b=124
       . by_cases h3:m % 2=1
         . simp [h2,h3] at q ⊢;exact q
         . simp [h2,h3] at q ⊢;exact q
       . by_cases h4:b=91
         . simp [h2,h4] at q ⊢;exact q
         . simp [h2,h4] at q ⊢;exact q
inductive zJl (vs:List V)(H:Hp)(Q:VK)(E:XK):Prop | m (b k:Int)(_:vs=[.int b,.int k])(_:Q (.int (zGn b k)) H)
theorem zJm (T:Txt K mg A):qM P w K mg base CX0 1 A.QO A.zAH ["byte","kept"] zJl:=by
 refine T.Qj.okc zJh fun vs H Q E h=>?_
 . obtain ⟨b,k,rfl,q⟩:=h;refine ⟨rfl,fun _ _ _ s hr=>⟨_,(zC (z6 (zS QC (pv 0) (zb rfl T.zKp) (zX _)) (zE (zN (z9 ZK (pv 1) zM))) zR) (zC (z6 (zS QC (pv 0) (zb rfl T.zCa) (zX _)) (zE (zN (z9 zFs (pv 1) zM))) zR) (zE (zN (pv 1))))),?_⟩⟩;show Zv _ _ _ [some (.int b),some (.int k)] H;walk_at "rd";simp only [zYC,true_and,and_true];unfold zGn at q;by_cases h1:b=91 <;> by_cases h2:b=93 <;> simp [h1,h2] at q ⊢ <;> exact q
def zNC (a:Addr)(ts:List Int)(b:Nat)(m:Int)(H:Hp):Nat->L2.St->Hp->Prop:=fun n Z H'=>∃ (p:Nat)(k:Int),n=ts.length - p/\H' = H/\Z=[some (.ref a),some (.int b),some (.int m),some (.int k),some (.int p)]/\b<=p/\p<=ts.length/\
 b+zAE m 0 0 (ts.drop b)=p+zAE m ((p:Int) - b) k (ts.drop p)
inductive zQo (K:Fg)(vs:List V)(H:Hp)(Q:VK)(E:XK):Prop | m (a:Addr)(ts:List Int)(b:Nat)(m:Int)(_:vs=[.ref a,.int b,.int m])(_:SqL K H a (ts.map V.int))(_:b<=ts.length)(_:Q (.int ((b+zAE m 0 0 (ts.drop b):Nat):Int)) H)
theorem zKb (T:Txt K mg A):qM P w K mg base CX0 5 A.zEV A.zGQ ["text","begin","turns"] (zQo K):=by
 refine T.zA9.okc zCJ fun vs H Q E h=>?_
 . obtain ⟨a,ts,b,m,rfl,hS,hb,q⟩:=h;refine ⟨rfl,fun _ _ _ s hr=>⟨_,(zC (sA 3 zCJ.nd zM) (zC (sA 4 zCJ.nd (pv 1)) (zC (zEl PassesOwn.never (L2.PW.pt (zJ7 (zS zFB (pv 4) (zd zQ (by rfl) T.QB PySem.boot_len (zA (pv 0) zD)) (zX _)) (zH0 (qQ (cA (zLf T) hr T.zEb T.Js (bd4 T.Js) (zA (ixL (pv 0) (pv 4)) (zA (z9 zFs (pv 4) (pv 1)) (zA (pv 3) (zA (pv 2) zD))))) (fun _=>rfl))))) (zC (sA 3 zCJ.nd (cA (zJm T) hr T.zDK T.Qj (bd2 T.Qj) (zA (ixL (pv 0) (pv 4)) (zA (pv 3) zD)))) (zE (zOo (i:=4) zCJ.nd rfl (Or.inl rfl) zM zOp)))) (zE (zN (pv 4)))))),?_⟩⟩;show Zv _ _ _ [some (.ref a),some (.int b),some (.int m),none,none] H;walk_at "rd";refine ⟨zNC a ts b m H,⟨_,b,0,rfl,rfl,rfl,Nat.le_refl _,hb,by simp⟩,?_⟩;rintro n Z H' ⟨p,k,rfl,rfl,rfl,h1,h2,h3⟩;walk_at "rd";refine ⟨_,.inl hS,?_⟩;rw [List.length_map];by_cases hp:p < ts.length
   . rw [if_pos (decide_eq_true (by omega))];obtain ⟨c,hc⟩ : ∃ c,ts[p]? = some c:=⟨_,List.getElem?_eq_getElem hp⟩;have hat:atI (ts.map V.int) (p:Int)=some (.int c):=Zw (by rw [List.getElem?_map,hc];rfl);rw [drop_cons hc,zCD] at h3;refine ⟨_,hS,_,hat,c,_,_,_,rfl,zMI c ((p:Int) - b) k m,rfl,?_⟩;by_cases hm:zMI c ((p:Int) - b) k m=true
     . rw [if_pos hm] at h3 ⊢;refine ⟨fun Z' H''=>∃ n',n' < ts.length - p/\zNC a ts b m H' n' Z' H'',fun _ _ z=>z,?_⟩;walk_at "rd";refine ⟨_,hS,_,hat,c,k,rfl,ts.length - (p+1),by omega,p+1,zGn c k,rfl,rfl,rfl,by omega,hp,?_⟩;rw [h3,show (((p+1:Nat):Int) - b)=(p:Int) - b+1 by omega];omega
     . rw [if_neg hm] at h3 ⊢;rw [h3] at q;simpa using q
   . rw [if_neg (by simp;omega)];have e:p=ts.length:=by omega
     subst e;rw [List.drop_length,zLP] at h3;rw [h3] at q;simpa using q
inductive zND (K:Fg)(vs:List V)(H:Hp)(Q:VK)(E:XK):Prop | m (a:Addr)(ts:List Int)(_:vs=[.ref a])(_:SqL K H a (ts.map V.int))(_:Q (.bl (zF2 ts)) H)
theorem zHN (T:Txt K mg A):qM P w K mg base CX0 1 A.zA3 A.zDC ["signs"] (zND K):=by
 refine T.Z4.okc zM9 fun vs H Q E h=>?_
 . obtain ⟨a,ts,rfl,hS,q⟩:=h;refine ⟨rfl,fun _ _ _ s hr=>⟨_,(zE (zN (zBh QC (zFv PySem.F.plainAttrs_list PySem.F.slot_list_count PySem.F.type_list_count zMh (pv 0) (zA (zb rfl T.zKp) zD)) (zFv PySem.F.plainAttrs_list PySem.F.slot_list_count PySem.F.type_list_count zMh (pv 0) (zA (zb rfl T.zCa) zD)) (zX _)))),?_⟩⟩;show zHD _ _ [some (.ref a)] H;walk_at "rd";refine ⟨.inl ⟨rfl,_,hS⟩,a,ts,91,rfl,rfl,hS,.inl ⟨rfl,_,hS⟩,a,ts,93,rfl,rfl,hS,rfl,?_⟩;have e:decide (V.int (List.count 91 ts)=V.int (List.count 93 ts))=zF2 ts:=by
     unfold zF2;simp;omega
   rw [e];exact q
inductive zSv (K:Fg)(vs:List V)(H:Hp)(Q:VK)(E:XK):Prop | m (a:Addr)(ts:List Int)(m:Int)(_:vs=[.ref a,.int m])(_:SqL K H a (ts.map V.int))(_:Q (.bl (qU m ts)) H)
theorem zNE (T:Txt K mg A):qM P w K mg base CX0 6 A.zGR A.zHu ["text","turns"] (zSv K):=by
 refine T.zDM.okc zSp fun vs H Q E h=>?_
 . obtain ⟨a,ts,m,rfl,hS,q⟩:=h;refine ⟨rfl,fun _ _ _ s hr=>⟨_,(zE (zN (zWv (zBh QC (cA (zKb T) hr T.zGZ T.zA9 (bd3 T.zA9) (zA (pv 0) (zA zM (zA (pv 1) zD)))) (zd zQ (by rfl) T.QB PySem.boot_len (zA (pv 0) zD)) (zX _)) (zRE (cA (zHN T) hr T.zDL T.Z4 (bd1 T.Z4) (zA (pv 0) zD)))))),?_⟩⟩;show zHD _ _ [some (.ref a),some (.int m)] H;walk_at "rd";refine ⟨a,ts,0,m,rfl,hS,Nat.zero_le _,?_⟩;refine ⟨_,.inl hS,rfl,?_⟩;unfold qU at q;rw [List.length_map];by_cases h1:zAE m 0 0 ts=ts.length
   . have e:decide (V.int ((0+zAE m 0 0 (List.drop 0 ts):Nat):Int)=V.int (ts.length:Int))=true:=(by simp [h1]);rw [e];refine ⟨a,ts,rfl,hS,?_⟩;simpa [h1] using q
   . have e:decide (V.int ((0+zAE m 0 0 (List.drop 0 ts):Nat):Int)=V.int (ts.length:Int))=false:=by simp;omega
     rw [e];simpa [h1] using q
end
section
theorem ZC (T:Txt K mg A):qM P w K mg base CX0 1 A.jc A.Zl ["self","place"] (zSu A.zr):=by
 refine T.qT.okc zGz fun vs H Q E h=>?_
 . obtain ⟨a,t,p,rfl,ha,q⟩:=h;refine ⟨rfl,fun _ _ _ s hr=>⟨_,(zE (zVk T.qE (pv 0) (pv 1) rfl)),?_⟩⟩;show zXV _ _ _ _ _ [some (.ref a),some (.int p)] H;exact ⟨_,rfl,_,rfl,a,t,rfl,ha,fun d h1 h2=>q d h1 h2⟩
def zVL (a b:Addr)(xs ys:List Int)(H:Hp):Nat->L2.St->Hp->Prop:=fun n Z H'=>∃ p:Nat,n=xs.length - p/\H' = H/\Z=[some (.ref a),some (.ref b),some (.int p)]/\p<=xs.length/\zBL xs ys=p+zBL (xs.drop p) (ys.drop p)
inductive zWE (K:Fg)(vs:List V)(H:Hp)(Q:VK)(E:XK):Prop | m (a b:Addr)(xs ys:List Int)(_:vs=[.ref a,.ref b])(_:SqL K H a (xs.map V.int))(_:SqL K H b (ys.map V.int))(_:Q (.int (zBL xs ys:Nat)) H)
theorem zFF (T:Txt K mg A):qM P w K mg base CX0 1 A.qj A.ja ["text","line"] (zWE K):=by
 refine T.qr.okc ZI fun vs H Q E h=>?_
 . obtain ⟨a,b,xs,ys,rfl,hx,hy,q⟩:=h;refine ⟨rfl,fun _ _ _ s hr=>⟨_,(zC (sA 2 ZI.nd zM) (zC (zEl PassesOwn.never (L2.PW.pt (zJ7 (zS zFB (pv 2) (zd zQ (by rfl) T.QB PySem.boot_len (zA (pv 0) zD)) (zX _)) (zJ7 (zS zFB (pv 2) (zd zQ (by rfl) T.QB PySem.boot_len (zA (pv 1) zD)) (zX _)) (zH0 (zS QC (ixL (pv 0) (pv 2)) (ixL (pv 1) (pv 2)) (zX _)))))) (zE (zOo (i:=2) ZI.nd rfl (Or.inl rfl) zM zOp))) (zE (zN (pv 2))))),?_⟩⟩;show Zv _ _ _ [some (.ref a),some (.ref b),none] H;walk_at "rd";refine ⟨zVL a b xs ys H,⟨_,0,rfl,rfl,rfl,Nat.zero_le _,by simp⟩,?_⟩;rintro n Z H' ⟨p,rfl,rfl,rfl,h1,h2⟩;walk_at "rd";refine ⟨_,.inl hx,?_⟩;rw [List.length_map];by_cases hp:p < xs.length
   . rw [if_pos (decide_eq_true (by omega))];refine ⟨_,.inl hy,?_⟩;rw [List.length_map];obtain ⟨c,hc⟩ : ∃ c,xs[p]? = some c:=⟨_,List.getElem?_eq_getElem hp⟩;rw [drop_cons hc] at h2;by_cases hp2:p < ys.length
     . rw [if_pos (decide_eq_true (by omega))];obtain ⟨c2,hc2⟩ : ∃ c,ys[p]? = some c:=⟨_,List.getElem?_eq_getElem hp2⟩;rw [drop_cons hc2,zAe] at h2;refine ⟨_,hx,_,Zw (v:=.int c) (by rw [List.getElem?_map,hc];rfl),_,hy,_,Zw (v:=.int c2) (by rw [List.getElem?_map,hc2];rfl),rfl,?_⟩;by_cases he:c=c2
       . rw [if_pos he] at h2;have e:decide (V.int c=V.int c2)=true:=by simp [he]
         rw [e];refine zYf ⟨fun Z' H''=>∃ n',n' < xs.length - p/\zVL a b xs ys H' n' Z' H'',fun _ _ z=>z,?_⟩;walk_at "rd";exact ⟨_,by omega,p+1,rfl,rfl,rfl,hp,by rw [h2];omega⟩
       . rw [if_neg he] at h2;have e:decide (V.int c=V.int c2)=false:=by simp [he]
         rw [e];refine zZB ?_;rw [h2] at q;simpa using q
     . rw [if_neg (by simp;omega)];rw [List.drop_eq_nil_of_le (by omega:ys.length<=p),zEp] at h2;rw [h2] at q;simpa using q
   . rw [if_neg (by simp;omega)];rw [List.drop_eq_nil_of_le (by omega:xs.length<=p),zCF] at h2;rw [h2] at q;simpa using q
theorem zPh {xs:List V}{i j:Nat}(h1:i<=j)(h2:j<=xs.length):zJU xs (some (i:Int)) (some (j:Int))=(xs.drop i).take (j - i):=by unfold zJU;rw [HT.zKz,HT.zKz,Nat.min_eq_left h2,Nat.min_eq_left (Nat.le_trans h1 h2)]
inductive zOG (K:Fg)(C:Addr)(vs:List V)(H:Hp)(Q:VK)(E:XK):Prop | m (a:Addr)(ts:List Int)(b:Nat)(m:Int)(_:vs=[.ref a,.int b,.int m])(_:SqL K H a (ts.map V.int))(_:b<=ts.length)(_:(∀ e,zLQ m ts b=.error e->zLd C H E e))(_:∀ row,zLQ m ts b=.ok row->∀ p,H p=none->Q (.ref p) (upd H p (.lst (row.map V.int))))
theorem zIk (T:Txt K mg A):qM P w K mg base (CXe P w A.zr) 6 A.zCS A.zE3 ["text","begin","turns"] (zOG K A.zr):=by
 refine okX T.Q8 zFf (fun vs H Q E h=>?_) (fun _ _ _ s H vs Q E hr h=>?_)
 . obtain ⟨a,ts,b,m,rfl,_⟩:=h;rfl
 . obtain ⟨a,ts,b,m,rfl,hS,hb,qe,qo⟩:=h;refine ⟨_,(zC (sA 3 zFf.nd (cA (zKb T) hr T.zGZ T.zA9 (bd3 T.zA9) (zA (pv 0) (zA (pv 1) (zA (pv 2) zD))))) (zC (sA 4 zFf.nd (zCb zH8 (pv 0) (zAi (pv 1)) (zAi (pv 3)))) (zC (z6 (L2.PW.pt (zRD (zS QC (pv 3) (zd zQ (by rfl) T.QB PySem.boot_len (zA (pv 0) zD)) (zX _)) (zRD (zS zW3 (ixL (pv 0) (pv 3)) (zb rfl T.JE) (zX _)) (zOn (zDa (qQ (cA (zHN T) hr T.zDL T.Z4 (bd1 T.Z4) (zA (pv 4) zD)) (fun _=>rfl))))))) (zE (zHq T.qE (zHp T.qE T.QA (ZC T) (hr.mono (by decide)) rfl T.Z7 (bd2 T.qT) zBj (pv 3)))) zR) (zE (zN (pv 4)))))),?_⟩;show Zv _ _ _ [some (.ref a),some (.int b),some (.int m),none,none] H;walk_at "rd";refine ⟨a,ts,b,m,rfl,hS,hb,_,rfl,_,hS,fun p hp=>?_⟩;have hle:=zLO m (ts.drop b) 0 0;rw [List.length_drop] at hle;have hcut:zJU (ts.map V.int) (some (b:Int)) (some ((b+zAE m 0 0 (ts.drop b):Nat):Int))=((ts.drop b).take (zAE m 0 0 (ts.drop b))).map V.int:=by
     rw [zPh (by omega) (by rw [List.length_map];omega),List.map_take,List.map_drop];congr 1;omega
   rw [hcut];have unf:zLQ m ts b=if b+zAE m 0 0 (ts.drop b)=ts.length\/ts[b+zAE m 0 0 (ts.drop b)]?≠some 10\/zF2 ((ts.drop b).take (zAE m 0 0 (ts.drop b)))=false then .error (b+zAE m 0 0 (ts.drop b)) else .ok ((ts.drop b).take (zAE m 0 0 (ts.drop b))):=rfl;generalize hr0:zAE m 0 0 (ts.drop b)=r at *;have s1:zz H (upd H p (.lst (((ts.drop b).take r).map V.int))):=fun c o e=>by rw [zF (zI e hp)];exact e
   have hS1:=s1.seq hS;refine ⟨_,.inl hS1,rfl,?_⟩;rw [List.length_map];by_cases h1:b+r=ts.length
   . have e:decide (V.int ((b+r:Nat):Int)=V.int (ts.length:Int))=true:=by rw [h1];simp
     rw [if_pos e];rw [if_pos (.inl h1)] at unf;exact Z8 s1 (qe _ unf)
   . have e:¬ (decide (V.int ((b+r:Nat):Int)=V.int (ts.length:Int))=true):=by simp;omega
     rw [if_neg e];obtain ⟨c,hc⟩ : ∃ c,ts[b+r]? = some c:=⟨_,List.getElem?_eq_getElem (by omega)⟩;refine ⟨_,_,rfl,hS1,_,Zw (v:=.int c) (by rw [List.getElem?_map,hc];rfl),rfl,?_⟩;rw [hc] at unf;by_cases h2:c=10
     . subst h2;rw [if_neg (by simp)];refine ⟨_,(ts.drop b).take r,rfl,SqL.of zB,_,rfl,?_⟩;cases h3:zF2 ((ts.drop b).take r) with
       | true =>rw [h3] at unf;rw [if_neg (by simp)];rw [if_neg (by simp [h1])] at unf;exact qo _ unf p hp
       | false =>rw [h3] at unf;rw [if_pos (by simp)];rw [if_pos (by simp)] at unf;exact Z8 s1 (qe _ unf)
     . rw [if_pos (by simp [h2])];rw [if_pos (.inr (.inl (by simp [h2])))] at unf;exact Z8 s1 (qe _ unf)
inductive zJn (K:Fg)(C:Addr)(vs:List V)(H:Hp)(Q:VK)(E:XK):Prop | m (a:Addr)(ts:List Int)(p:Nat)(last c:Int)(_:vs=[.ref a,.int p,.int last])(_:SqL K H a (ts.map V.int))(_:ts[p]? = some c)(_:(∀ e,zNw ts p last c=.error e->zLd C H E e))(_:(zNw ts p last c=.ok c->Q (.int c) H))
theorem zJo (T:Txt K mg A):qM P w K mg base (CXe P w A.zr) 3 A.QW A.zAN ["text","place","letter_before"] (zJn K A.zr):=by
 refine okX T.Qo zFK (fun vs H Q E h=>?_) (fun _ _ _ s H vs Q E hr h=>?_)
 . obtain ⟨a,ts,p,last,c,rfl,_⟩:=h;rfl
 . obtain ⟨a,ts,p,last,c,rfl,hS,hc,qe,qo⟩:=h;refine ⟨_,(zC (sA 3 zFK.nd (ixL (pv 0) (pv 1))) (zC (z6 (L2.PW.pt (zRD (zDa (qQ (cA (zBO T) hr T.Q7 T.qm (bd1 T.qm) (zA (pv 3) zD)) (fun _=>rfl))) (zOn (zS zDl (pv 3) (pv 2) (zX _))))) (zE (zHq T.qE (zHp T.qE T.QA (ZC T) (hr.mono (by decide)) rfl T.Z7 (bd2 T.qT) zBj (pv 1)))) zR) (zC (z6 (L2.PW.pt (zRD (zS QC (z9 ZK (pv 1) zM) (zd zQ (by rfl) T.QB PySem.boot_len (zA (pv 0) zD)) (zX _)) (zOn (zS zW3 (ixL (pv 0) (z9 ZK (pv 1) zM)) (zb rfl T.zHw) (zX _))))) (zE (zHq T.qE (zHp T.qE T.QA (ZC T) (hr.mono (by decide)) rfl T.Z7 (bd2 T.qT) zBj (z9 ZK (pv 1) zM)))) zR) (zE (zN (pv 3)))))),?_⟩;show Zv _ _ _ [some (.ref a),some (.int p),some (.int last),none] H;walk_at "rd";refine ⟨_,hS,_,Zw (v:=.int c) (by rw [List.getElem?_map,hc];rfl),c,rfl,isLet c,rfl,?_⟩;unfold zNw at qe qo;have lt:p < ts.length:=(List.getElem?_eq_some_iff.mp hc).1;have sm:zz H H:=fun _ _ e=>e;cases h1:isLet c with
   | false =>rw [h1] at qe;rw [if_pos (by simp)];exact Z8 sm (qe p (by simp))
   | true =>
     rw [h1] at qe qo;rw [if_neg (by simp)];refine ⟨c,rfl,?_⟩;by_cases h2:c<=last
     . rw [if_pos (by simp [h2])];exact Z8 sm (qe p (by simp [h2]))
     . rw [if_neg (by simp [h2])];rw [if_neg (by simp [h2])] at qo;have qe' : ∀ e,(if p+1=ts.length\/ts[p+1]?≠some 61 then (.error (p+1):Except Nat Int) else .ok c)=.error e->zLd A.zr H E e:=fun e he=>qe e (by rw [if_neg (by simp [h2])];exact he);refine ⟨_,.inl hS,rfl,?_⟩;rw [List.length_map];by_cases h3:p+1=ts.length
       . rw [if_pos (by rw [<- h3];simp)];exact Z8 sm (qe' (p+1) (if_pos (.inl h3)))
       . rw [if_neg (by simp;omega)];obtain ⟨c2,hc2⟩ : ∃ c,ts[p+1]? = some c:=⟨_,List.getElem?_eq_getElem (by omega)⟩;refine ⟨_,hS,_,at_of (j:=p+1) (v:=.int c2) rfl (by rw [List.getElem?_map,hc2];rfl),rfl,?_⟩;by_cases h4:c2=61
         . subst h4;rw [if_neg (by simp)];exact qo (if_neg (by simp [h3,hc2]))
         . rw [if_pos (by simp [h4])];exact Z8 sm (qe' (p+1) (if_pos (.inr (by simp [hc2,h4]))))
end
section
def zNY (t:Int):List Int:=if t=10 then [49,48] else if t=12 then [49,50] else [48+t]
theorem zSw (t:Int):zc t=zNY t ++ [10]:=by
 unfold zc zNY;split
 . rfl
 . split <;> rfl
theorem zSx {t:Int}(h:t∈jW):((toString t:PySem.Str).cps.toList.map fun (c:Nat)=>(c:Int))=zNY t/\t.natAbs.log2 < 1920:=by simp [jW] at h;rcases h with rfl | rfl | rfl | rfl | rfl | rfl | rfl <;> exact ⟨by decide +kernel,by decide +kernel⟩
theorem take_snoc {α:Type}:∀ {l:List α}{i:Nat}{x:α},l[i]? = some x->l.take (i+1)=l.take i ++ [x]
 | [],i,x,h=>by simp at h
 | a :: l,0,x,h=>by have e:a=x:=Option.some.inj h;subst e;rfl
 | a :: l,i+1,x,h=>by have ih:=take_snoc (l:=l) (i:=i) (x:=x) h;show a :: l.take (i+1)=a :: l.take i ++ [x];rw [ih];rfl
inductive zLg (vs:List V)(H:Hp)(Q:VK)(E:XK):Prop | m (t:Int)(_:vs=[.int t])(_:t∈jW)(_:∀ p H',zz H H'->H p=none->H' p=some (.lst ((zc t).map V.int))->Q (.ref p) H')
def zZG (D:Addr)(ds:List Int)(H:Hp):Nat->Nat->Hp->Prop:=fun i m H'=>m=ds.length - i/\i<=ds.length/\H' = upd H D (.lst ((ds.take i).map V.int))
theorem zC2 (T:Txt K mg A):qM P w K mg base CX0 1 A.Jm A.zBX ["turns"] zLg:=by
 refine T.jD.okc zC0 fun vs H Q E h=>?_
 . obtain ⟨t,rfl,ht,q⟩:=h;refine ⟨rfl,fun _ _ _ s hr=>⟨_,(zE (zN (z9 zFw (zRc (own:=[(("digit" : Str),1)]) rfl zC0.nd (zXP (zDm zMT (by rfl) T.zWj (by decide +kernel) (zA (pv 0) zD))) ⟨rfl,by decide +kernel,(by show ∀ p∈[(("digit" : Str),1)],(["turns","digit"]:List Str)[p.2]? = some p.1;decide +kernel),(by show ∀ y∈(_:List (Str×NameKind)),y.2=.free->(zH Jc).names.lookup y.1=some .cell\/(zH Jc).names.lookup y.1=some .free;decide +kernel),(by show ∀ y∈(_:List (Str×NameKind)),y.2=.local\/y.2=.cell->y.1∈[(("digit" : Str),1)].map (·.1)\/y.1∉(["turns","digit"]:List Str);decide +kernel)⟩ (fun _ _ _ _ _=>(z8 (i:=1) zC0.nd rfl (Or.inl rfl))) (fun _ _ _ _ _=>zK4) (fun _ _ _ _ _=>(zd zTb (by rfl) T.zWi (by decide +kernel) (zA (pv 1) zD)))) (qY (zA (zb rfl T.JE) zD))))),?_⟩⟩;show zHD _ _ [some (.int t),none] H;obtain ⟨hds,hlog⟩:=zSx ht;refine ⟨_,rfl,t,rfl,hlog,_,rfl,fun D hD=>⟨zZG D (zNY t) H,⟨_,rfl,Nat.zero_le _,rfl⟩,?_⟩⟩;rintro i n H1 ⟨rfl,hi,rfl⟩;have hlen:(Str.ofString (toString t)).cps.size=(zNY t).length:=by
     have:=congrArg List.length hds;simpa using this
   by_cases hlt:i < (zNY t).length
   . refine .inr ⟨by show i < (Str.ofString (toString t)).cps.size;rw [hlen];exact hlt,fun H'=>zZG D (zNY t) H (i+1) ((zNY t).length - (i+1)) H',fun H' z=>⟨_,by omega,z⟩,?_⟩;rintro x H' ⟨rfl,c,hc,rfl⟩;have hd:(zNY t)[i]? = some (c:Int):=by
       rw [<- hds,List.getElem?_map,Array.getElem?_toList,hc];rfl
     refine ⟨rfl,?_⟩;unfold zTh;show (if true=true then _ else _);rw [if_pos rfl];refine ⟨_,rfl,_,rfl,rfl,((zNY t).take i).map V.int,zB,?_,rfl,hlt,?_⟩
     . rw [List.length_map,List.length_take];have:(zNY t).length<=2:=by unfold zNY;split <;> (try split) <;> simp
       exact Nat.lt_of_le_of_lt (Nat.min_le_right _ _) (Nat.lt_of_le_of_lt this (by rw [sizeLine_eq];decide))
     . rw [z5,take_snoc hd,List.map_append];rfl
   . have e:i=(zNY t).length:=(by omega);subst e;refine .inl ⟨by show (Str.ofString (toString t)).cps.size<=_;rw [hlen];exact Nat.le_refl _,?_⟩;rw [List.take_length];refine ⟨by show 1<=sizeLine;rw [sizeLine_eq];decide,fun l hl=>?_⟩;have hDl:D≠l:=zI zB hl;refine ⟨D,l,_,_,rfl,rfl,by rw [zF hDl];exact zB,zB,?_,fun p hp=>?_⟩
     . rw [List.length_map];have:(zNY t).length<=2:=by unfold zNY;split <;> (try split) <;> simp
       rw [sizeLine_eq];show _+1<=_;omega
     . have hp1:H p=none:=by
         have n1:p≠D:=fun z=>by rw [z,zF hDl,zB] at hp;cases hp
         have n2:p≠l:=fun z=>by rw [z,zB] at hp;cases hp
         rw [zF n2,zF n1] at hp;exact hp
       refine q p _ (fun b o e=>?_) hp1 (by rw [zB,zSw,List.map_append];rfl);have hb1:b≠D:=zI e hD;have e1:upd H D (HO.lst ((zNY t).map V.int)) b=some o:=by rw [zF hb1];exact e
       rw [zF (zI e hp1),zF (zI e1 hl)];exact e1
end
section
inductive zLh (K:Fg)(C:Addr)(vs:List V)(H:Hp)(Q:VK)(E:XK):Prop | m (a:Addr)(ts:List Int)(_:vs=[.ref a])(_:SqL K H a (ts.map V.int))(_:(∀ e,zBk ts jW 0=.error e->zLd C H E e))(_:∀ t,zBk ts jW 0=.ok t->∀ H',zz H H'->Q (.int t) H')
theorem zPi (ts:List Int)(t:Int)(r:List Int)(far:Nat):zBk ts (t :: r) far=if zBL ts (zc t)=(zc t).length then .ok t else zBk ts r (max far (zBL ts (zc t))):=rfl
theorem zLi (T:Txt K mg A):qM P w K mg base (CXe P w A.zr) 3 A.Jn A.zBY ["text"] (zLh K A.zr):=by
 refine okX T.Jz ZA (fun vs H Q E h=>?_) (fun _ _ _ s H vs Q E hr h=>?_)
 . obtain ⟨a,ts,rfl,_⟩:=h;rfl
 . obtain ⟨a,ts,rfl,hS,qe,qo⟩:=h;refine ⟨_,(zC (sA 1 ZA.nd zM) (zC (JZ PassesOwn.leaving rfl (zUi (Z1 rfl T.zAa)) (z8 (i:=2) ZA.nd rfl (Or.inl rfl)) (zC (sA 3 ZA.nd (cA (zC2 T) hr T.Jy T.jD (bd1 T.jD) (zA (pv 2) zD))) (zC (sA 4 ZA.nd (cA (zFF T) hr T.Z6 T.qr (bd2 T.qr) (zA (pv 0) (zA (pv 3) zD)))) (zC (z6 (zS QC (pv 4) (zd zQ (by rfl) T.QB PySem.boot_len (zA (pv 3) zD)) (zX _)) (zE (zN (pv 2))) zR) (zE (sA 1 ZA.nd (zd (zRP rfl) (by rfl) T.zWh (by decide +kernel) (zA (pv 1) (zA (pv 4) zD))))))))) (zE (zHq T.qE (zHp T.qE T.QA (ZC T) (hr.mono (by decide)) rfl T.Z7 (bd2 T.qT) zBj (pv 1)))))),?_⟩;show Zv _ _ _ [some (.ref a),none,none,none,none] H;refine ⟨_,rfl,⟨_,T.Q0 H⟩,zRJ (K:=K) (a:=A.Qi) (xs:=jW.map V.int)
     (fun i Z H'=>∃ (far:Nat)(v2 v3 v4:Option V),Z=[some (.ref a),some (.int far),v2,v3,v4]/\zz H H'/\zBk ts jW 0=zBk ts (jW.drop i) far)
     ⟨0,none,none,none,rfl,fun _ _ e=>e,rfl⟩ (fun i Z H' _ _=>T.Q0 H') ?_ ?_⟩
   . rintro i x Z H' hx ⟨far,v2,v3,v4,rfl,sm,hr1⟩;obtain ⟨t,ht,rfl⟩ : ∃ t,jW[i]? = some t/\x=V.int t:=by
       rw [List.getElem?_map] at hx;cases e:jW[i]? with
       | none=>rw [e] at hx;cases hx
       | some t=>rw [e] at hx;exact ⟨t,rfl,(Option.some.inj hx).symm⟩
     rw [drop_cons ht,zPi] at hr1;walk_at "rd";refine ⟨t,rfl,List.mem_of_getElem? ht,fun p H1 s1 hp hl=>?_⟩;refine ⟨a,p,ts,zc t,rfl,s1.seq (sm.seq hS),SqL.of hl,?_⟩;refine ⟨_,rfl,_,.inl (SqL.of hl),rfl,?_⟩;rw [List.length_map];by_cases h1:zBL ts (zc t)=(zc t).length
     . rw [if_pos h1] at hr1;rw [if_pos (by rw [h1];simp)];exact qo t hr1 H1 (sm.trans s1)
     . rw [if_neg h1] at hr1;rw [if_neg (by simp;omega)];have e:(if (zBL ts (zc t):Int) > (far:Int) then (zBL ts (zc t):Int) else (far:Int))=((max far (zBL ts (zc t)):Nat):Int):=by
         split <;> omega
       exact ⟨far,zBL ts (zc t),⟨rfl,rfl⟩,max far (zBL ts (zc t)),_,_,_,⟨e,rfl,rfl,rfl⟩,sm.trans s1,hr1⟩
   . rintro Z H' ⟨far,v2,v3,v4,rfl,sm,hr1⟩;rw [List.length_map,List.drop_length] at hr1;walk_at "rd";exact Z8 sm (qe far hr1)
theorem zLd.mono {C:Addr}{H H1:Hp}{E:XK}{p:Int}(h:zLd C H E p)(s:zz H H1):zLd C H1 E p:=fun d H' s' e=>h d H' (s.trans s') e
def jX (H:Hp)(d:Addr)(rl:RL):Prop:=∃ kvs:List (Key×V),H d=some (.dK kvs)/\Paired (fun (kv:Key×V)(x:Int×List Int)=>kv.1=Sum.inl x.1/\∃ r,kv.2=.ref r/\H r=some (.lst (x.2.map V.int))) kvs rl
theorem zC3 {α β:Type}{G:α->β->Prop}:∀ {l:List α}{m:List β}{a:α}{b:β},Paired G l m->G a b->Paired G (l ++ [a]) (m ++ [b])
 | _,_,_,_,.nil,h=>.cons h .nil
 | _,_,_,_,.cons r t,h=>.cons r (zC3 t h)
theorem zG3 {α β:Type}{G:α->β->Prop}:∀ {l:List α}{m:List β}{a:α},Paired G l m->a∈l->∃ b∈m,G a b
 | _,_,_,.nil,h=>by cases h
 | _,_,_,.cons r t,h=>by
   rcases List.mem_cons.mp h with rfl | h
   . exact ⟨_,List.mem_cons_self,r⟩
   . obtain ⟨b,hb,g⟩:=zG3 t h;exact ⟨b,List.mem_cons_of_mem _ hb,g⟩
theorem zPj {kvs:List (Key×V)}{k:Key}{v:V}(h:∀ p∈kvs,p.1≠k):putK kvs k v=kvs ++ [(k,v)]:=by unfold putK;rw [if_neg];intro z;obtain ⟨p,hp,e⟩:=List.any_eq_true.mp z;exact h p hp (of_decide_eq_true e)
structure Read (H' : Hp)(p:Addr)(m:Int)(row:List Int)(rl:RL):Prop where
 mk ::
 at_:∃ pr pd,H' p=some (.tup [.int m,.ref pr,.ref pd])/\H' pr=some (.lst (row.map V.int))/\jX H' pd rl
inductive zNF (K:Fg)(C:Addr)(vs:List V)(H:Hp)(Q:VK)(E:XK):Prop | m (a:Addr)(ts:List Int)(_:vs=[.ref a])(_:SqL K H a (ts.map V.int))(_:(∀ x∈ts,qS x))(_:ts.length<=sizeLine)(_:(∀ e,Trail.readWorld (ts.map u8)=.error e->zLd C H E e))(_:∀ (m:Int)(row:List Int)(rl:RL),Trail.readWorld (ts.map u8)=.ok ⟨m.toNat,row.map u8,conv rl⟩->m∈jW->qU m row=true->(∀ x∈row,qS x)->(rl.map (·.1)).Pairwise (· < ·)->(∀ x∈rl,isLet x.1=true/\qU m x.2=true/\∀ y∈x.2,qS y)->∀ H' p,zz H H'->Read H' p m row rl->Q (.ref p) H')
theorem zKc {ts:List Int}:∀ {l:List Int}{far:Nat}{t:Int},zBk ts l far=.ok t->t∈l/\zBL ts (zc t)=(zc t).length
 | [],_,_,h=>by cases h
 | x :: l,far,t,h=>by
   rw [zPi] at h;split at h
   . rename_i e;have:=Except.ok.inj h;subst this;exact ⟨List.mem_cons_self,e⟩
   . obtain ⟨a,b⟩:=zKc h;exact ⟨List.mem_cons_of_mem _ a,b⟩
theorem zPk:∀ (l m:List Int),zBL l m<=l.length
 | [],m=>by rw [zCF];exact Nat.le_refl _
 | _ :: _,[]=>by rw [zEp];exact Nat.zero_le _
 | a :: l,b :: m=>by
   rw [zAe,List.length_cons];split
   . have:=zPk l m;omega
   . omega
theorem zKd:∀ (l:List Int)(b:Int),l.Pairwise (· < ·)->(∀ x∈l,b < x)->(∀ x∈l,x<=122)->l.length<=(122 - b).toNat
 | [],_,_,_,_=>Nat.zero_le _
 | a :: l,b,h,h1,h2=>by rw [List.pairwise_cons] at h;have:=zKd l a h.2 (fun x hx=>h.1 x hx) (fun x hx=>h2 x (List.mem_cons_of_mem _ hx));have:=h1 a List.mem_cons_self;have:=h2 a List.mem_cons_self;rw [List.length_cons];omega
structure Loop (H:Hp)(a:Addr)(ts:List Int)(m:Int)(fr d:Addr)(row0:List Int)(R:Except Nat (List (UInt8×List UInt8)))(n:Nat)(Z:L2.St)(H' : Hp):Prop where
 mk ::
 all:∃ (p last f:Nat)(acc:RL)(v6:Option V),n=ts.length - p/\Z=[some (.ref a),some (.int m),some (.int p),some (.ref fr),some (.ref d),some (.int last),v6]/\zz H H'/\H d=none/\H' fr=some (.lst (row0.map V.int))/\jX H' d acc/\
   p<=ts.length/\need last<=f+1/\(∀ x∈acc,x.1<=(last:Int))/\(acc.map (·.1)).Pairwise (· < ·)/\(∀ x∈acc,isLet x.1=true/\qU m x.2=true/\∀ y∈x.2,qS y)/\
   R=(match Trail.rulesIn m.toNat (f+1) last p ((ts.drop p).map u8) with | .error e=>.error e | .ok l=>.ok (conv acc ++ l))
theorem zNG (T:Txt K mg A):qM P w K mg base (CXe P w A.zr) 7 A.zA5 A.zDE ["text"] (zNF K A.zr):=by
 refine okX T.zBE qZ (fun vs H Q E h=>?_) (fun _ _ _ s H vs Q E hr h=>?_)
 . obtain ⟨a,ts,rfl,_⟩:=h;rfl
 . obtain ⟨a,ts,rfl,hS,hB,hZ,qe,qo⟩:=h;refine ⟨_,(zC (sA 1 qZ.nd (zFN (zLi T) (hr.mono (by decide)) rfl T.zEi T.Jz.kp (bd1 T.Jz) .nil zTp (zA (pv 0) zD))) (zC (sA 2 qZ.nd (zd zQ (by rfl) T.QB PySem.boot_len (zA (cA (zC2 T) hr T.Jy T.jD (bd1 T.jD) (zA (pv 1) zD)) zD))) (zC (sA 3 qZ.nd (zFN (zIk T) (hr.mono (by decide)) rfl T.zE7 T.Q8.kp (bd3 T.Q8) .nil zTp (zA (pv 0) (zA (pv 2) (zA (pv 1) zD))))) (zC (zOo (i:=2) qZ.nd rfl (Or.inl rfl) (z9 ZK (zd zQ (by rfl) T.QB PySem.boot_len (zA (pv 3) zD)) zM) zOp) (zC (sA 4 qZ.nd zEn) (zC (sA 5 qZ.nd zM) (zC (zEl PassesOwn.leaving (zS zFB (pv 2) (zd zQ (by rfl) T.QB PySem.boot_len (zA (pv 0) zD)) (zX _)) (zC (sA 5 qZ.nd (zFN (zJo T) (hr.mono (by decide)) rfl T.zDS T.Qo.kp (bd3 T.Qo) .nil zTp (zA (pv 0) (zA (pv 2) (zA (pv 5) zD))))) (zC (sA 6 qZ.nd (zFN (zIk T) (hr.mono (by decide)) rfl T.zE7 T.Q8.kp (bd3 T.Q8) .nil zTp (zA (pv 0) (zA (z9 ZK (pv 2) zM) (zA (pv 1) zD))))) (zC (zGl (zAF hr) (pv 4) (pv 5) (pv 6) rfl) (zE (zOo (i:=2) qZ.nd rfl (Or.inl rfl) (z9 ZK (zd zQ (by rfl) T.QB PySem.boot_len (zA (pv 6) zD)) zM) zOp)))))) (zE (zN (zH6 (zA (pv 1) (zA (pv 3) (zA (pv 4) zD))))))))))))),?_⟩;show Zv _ _ _ [some (.ref a),none,none,none,none,none,none] H;have sp1:=zMp ts hB;have rw0:Trail.readWorld (ts.map u8)=(match Trail.roundIn (ts.map u8) with
     | .error k=>.error k
     | .ok x=>match Trail.rowIn x.1 0 0 x.2.1 x.2.2 with
       | .error k=>.error k
       | .ok y=>match Trail.rulesIn x.1 60 0 y.2.1 y.2.2 with
         | .error k=>.error k
         | .ok l=>.ok ⟨x.1,y.1,l⟩):=rfl
   rw [sp1] at rw0;refine ⟨_,rfl,a,ts,rfl,hS,fun e he=>?_,fun m hm H1 s1=>?_⟩
   . rw [he] at rw0;exact qe e rw0
   . obtain ⟨mT,hsame⟩:=zKc hm;rw [hm] at rw0;have hlen:(zc m).length<=ts.length:=by rw [<- hsame];exact zPk _ _
     walk_at "rd";refine ⟨m,rfl,mT,fun pl H2 s2 npl hpl=>?_⟩;refine ⟨_,rfl,_,.inl (SqL.of hpl),?_⟩;rw [List.length_map];have m0:m=(m.toNat:Int):=by simp [jW] at mT;omega
     have s02:zz H H2:=s1.trans s2;have spr:=zKN m.toNat ts (zc m).length hlen hB;rw [<- m0] at spr;simp only [spr] at rw0;refine ⟨a,ts,(zc m).length,m,rfl,s02.seq hS,hlen,fun e he=>?_,fun row0 hrow pr npr=>?_⟩
     . rw [he] at rw0;exact (qe e rw0).mono s02
     . refine hid fun Z_ z_=>?_;rw [hrow] at rw0;simp only at rw0;obtain ⟨er,ec,elt,ero⟩:=zMo hrow;refine z_ ?_;clear z_;have rowB:∀ x∈row0,qS x:=fun x hx=>hB x (by rw [er] at hx;exact List.mem_of_mem_drop (List.mem_of_mem_take hx));refine ⟨pr,rfl,_,.inl (SqL.of zB),fun d nd=>?_⟩;have s3:zz H2 (upd H2 pr (.lst (row0.map V.int))):=fun b o e=>by rw [zF (zI e npr)];exact e
       have s4:zz (upd H2 pr (.lst (row0.map V.int))) (upd (upd H2 pr (.lst (row0.map V.int))) d (.dK [])):=fun b o e=>by rw [zF (zI e nd)];exact e
       have hd0:H d=none:=(s02.trans s3).free nd;have prd:pr≠d:=zI zB nd;have ep:((zc m).length:Int)+(((row0.map V.int).length:Int)+1)=(((zc m).length+row0.length+1:Nat):Int):=by rw [List.length_map];omega
       rw [ep];refine ⟨Loop H a ts m pr d row0 (Trail.rulesIn m.toNat 60 0 ((zc m).length+row0.length+1) ((ts.drop ((zc m).length+row0.length+1)).map u8)),
         ⟨_,⟨(zc m).length+row0.length+1,0,59,[],none,rfl,rfl,(s02.trans s3).trans s4,hd0,by rw [zF prd];exact zB,⟨[],zB,.nil⟩,by omega,by decide,by simp,by simp,by simp,?_⟩⟩,?_⟩
       . cases Trail.rulesIn m.toNat 60 0 ((zc m).length+row0.length+1) ((ts.drop ((zc m).length+row0.length+1)).map u8) <;> simp [conv]
       rintro n Z H3 ⟨p,last,f,acc,v6,rfl,rfl,sm,_,hfr,⟨kvs,hkv,hpd⟩,hp,hneed,hacc,hpw,hall,hR⟩;walk_at "rd";refine ⟨_,.inl (sm.seq hS),?_⟩;rw [List.length_map];by_cases hlt:p < ts.length
       . rw [if_pos (decide_eq_true (by omega))];obtain ⟨c,hc⟩ : ∃ c,ts[p]? = some c:=⟨_,List.getElem?_eq_getElem hlt⟩;have st:=zQW m.toNat f last p ts c hc hB;rw [st] at hR;rw [<- m0] at hR;refine ⟨fun Z' H''=>∃ n',n' < ts.length - p/\Loop H a ts m pr d row0 (Trail.rulesIn m.toNat 60 0 ((zc m).length+row0.length+1) ((ts.drop ((zc m).length+row0.length+1)).map u8)) n' Z' H'',fun _ _ z=>z,?_⟩;refine ⟨a,ts,p,last,c,rfl,sm.seq hS,hc,fun e he=>?_,fun he=>?_⟩
         . rw [he] at hR;simp only at hR;rw [hR] at rw0;exact (qe e rw0).mono sm
         . rw [he] at hR;simp only at hR;have hcl:isLet c=true/\(last:Int) < c:=by
             unfold zNw at he;split at he
             . cases he
             . rename_i hn;simp at hn;exact ⟨hn.1,by omega⟩
           have e2:((p:Int)+2)=((p+2:Nat):Int):=(by omega);have hp2:p+2<=ts.length:=by
             unfold zNw at he;rw [if_neg (by simp [hcl.1];omega)] at he;split at he
             . cases he
             . rename_i hn;simp only [not_or] at hn;omega
           rw [e2];refine ⟨a,ts,p+2,m,rfl,sm.seq hS,hp2,fun e he2=>?_,fun row hrow2 r nr=>?_⟩
           . rw [he2] at hR;simp only at hR;rw [hR] at rw0;exact (qe e rw0).mono sm
           . refine hid fun Z_ z_=>?_;rw [hrow2] at hR;simp only at hR;obtain ⟨er2,ec2,elt2,ero2⟩:=zMo hrow2;refine z_ ?_;clear z_;have rowB2:∀ x∈row,qS x:=fun x hx=>hB x (by rw [er2] at hx;exact List.mem_of_mem_drop (List.mem_of_mem_take hx));have s6:zz H3 (upd H3 r (.lst (row.map V.int))):=fun b o e=>by rw [zF (zI e nr)];exact e
             have hkv6:=s6 _ _ hkv;have hlen6:kvs.length < sizeLine:=by
               have h1:kvs.length=acc.length:=Paired.length hpd;have h2:=zKd (acc.map (·.1)) 64 hpw (fun x hx=>by
                 obtain ⟨z,hz,rfl⟩:=List.mem_map.mp hx;have:=zCe (hall z hz).1;omega) (fun x hx=>by
                 obtain ⟨z,hz,rfl⟩:=List.mem_map.mp hx;have:=zCe (hall z hz).1;omega)
               rw [List.length_map] at h2;rw [h1,sizeLine_eq];omega
             have hnew:putK kvs (Sum.inl c) (V.ref r)=kvs ++ [(Sum.inl c,V.ref r)]:=zPj fun kv hk z=>by refine hid fun Z_ z_=>?_;obtain ⟨x,hx,ex,_⟩:=zG3 hpd hk;refine z_ ?_;clear z_;rw [ex] at z;have:=hacc x hx;have:x.1=c:=Sum.inl.inj z;omega
             refine ⟨_,rfl,_,rfl,_,rfl,d,_,rfl,zTj.k (k:=Sum.inl c) hkv6 hlen6,?_⟩;rw [hnew];have rd:r≠d:=fun z=>by rw [z,hkv] at nr;cases nr
             have H7k:∀ b o,H3 b=some o->b≠d->upd (upd H3 r (.lst (row.map V.int))) d (.dK (kvs ++ [(Sum.inl c,V.ref r)])) b=some o:=fun b o e hb=>by rw [zF hb];exact s6 _ _ e
             have s7:zz H (upd (upd H3 r (.lst (row.map V.int))) d (.dK (kvs ++ [(Sum.inl c,V.ref r)]))):=fun b o e=>H7k b o (sm b o e) (zI e hd0);have hr7:upd (upd H3 r (.lst (row.map V.int))) d (.dK (kvs ++ [(Sum.inl c,V.ref r)])) r=some (.lst (row.map V.int)):=by rw [zF rd];exact zB
             refine ⟨_,rfl,_,rfl,r,rfl,_,.inl (SqL.of hr7),_,_,rfl,rfl,_,_,rfl,rfl,?_⟩;refine hid fun Z_ z_=>?_;obtain ⟨hn1,hn2⟩:=zSG hneed hcl.1 hcl.2;obtain ⟨f',rfl⟩ : ∃ f',f=f' + 1:=⟨f - 1,by omega⟩;obtain ⟨cl,ch⟩:=zCe hcl.1;refine z_ ?_;clear z_;have ec3:c=((c.toNat:Nat):Int):=by omega
             refine ⟨ts.length - (p+row.length+3),by omega,⟨p+row.length+3,c.toNat,f',acc ++ [(c,row)],some (.ref r),rfl,?_,s7,hd0,?_,⟨_,zB,?_⟩,by omega,hn1,?_,?_,?_,?_⟩⟩
             . have e8:((fun i j=>i+j) (p:Int) (((row.map V.int).length:Int)+3))=(p:Int)+((row.length:Int)+3):=(by rw [List.length_map]);rw [e8,<- ec3];have e9:(p:Int)+((row.length:Int)+3)=((p+row.length+3:Nat):Int):=by omega
               rw [e9];rfl
             . exact H7k _ _ hfr (zVQ hfr hkv (by intro z;cases z))
             . refine zC3 (Paired.zFH hpd fun kv x h=>⟨h.1,let ⟨r',e1,e2⟩:=h.2;⟨r',e1,H7k _ _ e2 (zVQ e2 hkv (by intro z;cases z))⟩⟩) ⟨rfl,r,rfl,hr7⟩
             . intro x hx;rcases List.mem_append.mp hx with h | h
               . have:=hacc x h;omega
               . simp at h;subst h;simp;omega
             . rw [List.map_append,List.pairwise_append];refine ⟨hpw,by simp,fun x hx y hy=>?_⟩;simp at hy;subst hy;obtain ⟨z,hz,rfl⟩:=List.mem_map.mp hx;have:=hacc z hz;omega
             . intro x hx;rcases List.mem_append.mp hx with h | h
               . exact hall x h
               . simp at h;subst h;exact ⟨hcl.1,ero2,rowB2⟩
             . rw [hR];cases Trail.rulesIn m.toNat (f' + 1) c.toNat (p+row.length+3) ((ts.drop (p+row.length+3)).map u8) with
               | error e=>rfl
               | ok l=>simp [conv]
       . rw [if_neg (by simp;omega)];have e:p=ts.length:=by omega
         subst e;rw [List.drop_length,List.map_nil,zSF] at hR;simp only [List.append_nil] at hR;rw [hR] at rw0;simp only at rw0;refine ⟨by show 3<=sizeLine;rw [sizeLine_eq];decide,fun p np=>?_⟩;have s5:zz H3 (upd H3 p (.tup [.int m,.ref pr,.ref d])):=fun b o e=>by rw [zF (zI e np)];exact e
         exact qo m row0 acc rw0 mT ero rowB hpw hall _ p (sm.trans s5) ⟨⟨pr,d,zB,s5 _ _ hfr,kvs,s5 _ _ hkv,Paired.zFH hpd fun kv x h=>⟨h.1,let ⟨r,e1,e2⟩:=h.2;⟨r,e1,s5 _ _ e2⟩⟩⟩⟩
end
theorem zNH {H:Hp}(c:Int):∀ {kvs:List (Key×V)}{rl:RL},Paired (fun (kv:Key×V)(x:Int×List Int)=>kv.1=Sum.inl x.1/\∃ r,kv.2=.ref r/\H r=some (.lst (x.2.map V.int))) kvs rl-> match look rl c with
   | some row=>∃ r,zFy kvs (Sum.inl c)=some (.ref r)/\H r=some (.lst (row.map V.int))
   | none=>zFy kvs (Sum.inl c)=none
 | _,_,.nil=>rfl
 | (k,v) :: kvs,x :: rl,.cons h t=>by
   obtain ⟨h1,r,h2,h3⟩:=h;have h1' : k=Sum.inl x.1:=h1;have h2' : v=V.ref r:=h2;subst h1' h2';by_cases e:x.1=c
   . have:look (x :: rl) c=some x.2:=by unfold look;rw [List.find?_cons];simp [e]
     rw [this];refine ⟨r,?_,h3⟩;unfold zFy;rw [List.find?_cons];simp [e]
   . have e1:look (x :: rl) c=look rl c:=by unfold look;rw [List.find?_cons];simp [e]
     have e2:zFy ((Sum.inl x.1,V.ref r) :: kvs) (Sum.inl c)=zFy kvs (Sum.inl c):=by unfold zFy;rw [List.find?_cons];have:(decide ((Sum.inl x.1:Key)=Sum.inl c))=false:=decide_eq_false fun z=>e (Sum.inl.inj z);rw [this]
     rw [e1,e2];exact zNH c t
theorem zKe {H:Hp}{d:Addr}{rl:RL}(h:jX H d rl)(c:Int):∃ o,zK7 H d (.int c) o/\(match look rl c with
   | some row=>∃ r,o=some (.ref r)/\H r=some (.lst (row.map V.int))
   | none=>o=none):=by
 obtain ⟨kvs,hd,hp⟩:=h;exact ⟨_,zK7.k (k:=Sum.inl c) hd,zNH c hp⟩
theorem jX.mono {H H' : Hp}{d:Addr}{rl:RL}(h:jX H d rl)(s:zz H H'):jX H' d rl:=by obtain ⟨kvs,hd,hp⟩:=h;exact ⟨kvs,s _ _ hd,Paired.zFH hp fun kv x h=>⟨h.1,let ⟨r,e1,e2⟩:=h.2;⟨r,e1,s _ _ e2⟩⟩⟩
theorem zUP {rl:RL}{c:Int}(h:c∈rl.map (·.1)):∃ row,look rl c=some row/\(c,row)∈rl:=by
 unfold look;cases e:rl.find? fun x=>decide (x.1=c) with
 | none =>obtain ⟨x,hx,rfl⟩:=List.mem_map.mp h;have:=List.find?_eq_none.mp e x hx;simp at this
 | some x =>have h1:=List.mem_of_find?_eq_some e;have h2:=List.find?_some e;simp at h2;exact ⟨x.2,rfl,by rw [<- h2];exact h1⟩
theorem jX.keys {H:Hp}{d:Addr}{rl:RL}{kvs:List (Key×V)}(h:Paired (fun (kv:Key×V)(x:Int×List Int)=>kv.1=Sum.inl x.1/\∃ r,kv.2=.ref r/\H r=some (.lst (x.2.map V.int))) kvs rl):kvs.map (·.1)=(rl.map (·.1)).map Sum.inl:=by
 induction h with
 | nil=>rfl
 | cons r t ih=>rw [List.map_cons,List.map_cons,List.map_cons,ih,r.1]
section
def rowOf (rl:RL)(c:Int):List Int:=(look rl c).getD []
def qI (rl:RL)(ns:List Int):List Int:=ns.flatMap fun c=>c :: 61 :: (rowOf rl c ++ [10])
inductive zQp (vs:List V)(H:Hp)(Q:VK)(E:XK):Prop | m (m:Int)(fr d:Addr)(row:List Int)(rl:RL)(_:vs=[.int m,.ref fr,.ref d])(_:m∈jW)(_:H fr=some (.lst (row.map V.int)))(_:jX H d rl)(_:row.length<=255)(_:rl.length < 64)(_:(∀ x∈rl,x.2.length<=255))(_:∀ ns:List Int,ns.Perm (rl.map (·.1))->ns.Pairwise (·<=·)->∀ p H',zz H H'->H p=none->H' p=some (.lst ((zc m ++ row ++ [10] ++ qI rl ns).map V.int))->Q (.ref p) H')
theorem zHO (rl:RL)(h:∀ x∈rl,x.2.length<=255):∀ ns:List Int,(qI rl ns).length<=258 * ns.length
 | []=>by simp [qI]
 | c :: r=>by
   have ih:=zHO rl h r;have e:qI rl (c :: r)=(c :: 61 :: (rowOf rl c ++ [10])) ++ qI rl r:=rfl;have hr:(rowOf rl c).length<=255:=by
     unfold rowOf look;cases q:rl.find? fun x=>decide (x.1=c) with
     | none=>simp
     | some x=>exact h x (List.mem_of_find?_eq_some q)
   rw [e,List.length_append,List.length_cons,List.length_cons,List.length_append,List.length_cons,List.length_nil,List.length_cons];omega
theorem zK {H:Hp}{p:Addr}{o:HO}(h:H p=none):zz H (upd H p o):=fun b u e=>by rw [zF (zI e h)];exact e
theorem jY {H H1:Hp}{p:Addr}{o:HO}(s:zz H H1)(h:H p=none):zz H (upd H1 p o):=fun b u e=>by rw [zF (zI e h)];exact s b u e
def zXz (H:Hp)(m:Int)(fr d p ps:Addr)(row:List Int)(rl:RL)(ns:List Int):Nat->L2.St->Hp->Prop:=fun i Z H'=>∃ v4:Option V,Z=[some (.int m),some (.ref fr),some (.ref d),some (.ref p),v4]/\zz H H'/\H' ps=some (.lst (ns.map V.int))/\
 H' p=some (.lst ((zc m ++ row ++ [10] ++ qI rl (ns.take i)).map V.int))
theorem zQq (T:Txt K mg A):qM P w K mg base CX0 2 A.zEZ A.zGV ["turns","first_row","rules"] zQp:=by
 refine T.zEh.okc zG0 fun vs H Q E h=>?_
 . obtain ⟨m,fr,d,row,rl,rfl,mT,hfr,hrl,l1,l2,l3,q⟩:=h;refine ⟨rfl,fun _ _ _ s hr=>⟨_,(zC (sA 3 zG0.nd (z9 zFw (z9 zFw (cA (zC2 T) hr T.Jy T.jD (bd1 T.jD) (zA (pv 0) zD)) (pv 1)) (qY (zA (zb rfl T.JE) zD)))) (zC (JZ PassesOwn.never rfl (zDk (zd (zQP rfl) (by rfl) T.zMH (by decide +kernel) (zA (pv 2) zD))) (z8 (i:=4) zG0.nd rfl (Or.inl rfl)) (zC (z7 (zFv PySem.F.plainAttrs_list PySem.F.slot_list_extend PySem.F.type_list_extend zDo (pv 3) (zA (qY (zA (pv 4) (zA (zb rfl T.zHw) zD))) zD))) (zC (z7 (zFv PySem.F.plainAttrs_list PySem.F.slot_list_extend PySem.F.type_list_extend zDo (pv 3) (zA (zDq (zAF hr) (pv 2) (pv 4) (fun _ _=>rfl)) zD))) (zE (z7 (zFv PySem.F.plainAttrs_list PySem.F.slot_list_append PySem.F.type_list_append zAj (pv 3) (zA (zb rfl T.JE) zD))))))) (zE (zN (pv 3))))),?_⟩⟩;show Zv _ _ _ [some (.int m),some (.ref fr),some (.ref d),none,none] H;walk_at "rd";refine ⟨m,rfl,mT,fun pl H1 s1 npl hpl=>?_⟩;have big:=sizeLine_eq;have lm:(zc m).length<=3:=by unfold zc;split <;> (try split) <;> simp
   refine ⟨pl,fr,_,_,rfl,rfl,hpl,s1 _ _ hfr,by rw [List.length_map,List.length_map];omega,fun p1 np1=>⟨by show 1<=sizeLine;omega,fun p2 np2=>?_⟩⟩;have s2:=s1.trans (zK (o:=.lst ((zc m).map V.int ++ row.map V.int)) np1);have s3:=s2.trans (zK (o:=.lst [V.int 10]) np2);have n12:p1≠p2:=zI zB np2;refine ⟨p1,p2,_,_,rfl,rfl,by rw [zF n12];exact zB,zB,by rw [List.length_append,List.length_map,List.length_map];show _+1<=_;omega,fun p3 np3=>?_⟩;have s4:=s3.trans (zK (o:=.lst ((zc m).map V.int ++ row.map V.int ++ [V.int 10])) np3);obtain ⟨kvs,hkv,hpd⟩:=id hrl;have h3:H p3=none:=s3.free np3;refine ⟨_,rfl,d,rfl,kvs,s4 _ _ hkv,rl.map (·.1),jX.keys (d:=d) hpd,by rw [List.length_map];exact l2,fun ns ps perm srt nps=>?_⟩;have hps:H ps=none:=s4.free nps;have n3s:p3≠ps:=zI zB nps;have lns:ns.length < 64:=by rw [perm.length_eq,List.length_map];exact l2
   refine ⟨ps,rfl,⟨_,SqL.of zB⟩,zEm (K:=K) (a:=ps) (xs:=ns.map V.int) (zXz H m fr d p3 ps row rl ns) ⟨none,rfl,s4.trans (zK nps),zB,?_⟩ (fun i Z H' _ ⟨_,_,_,h,_⟩=>SqL.of h) ?_ ?_⟩
   . rw [zF n3s,zB];simp [qI]
   . rintro i x Z H' hx ⟨v4,rfl,sm,hns,htx⟩;obtain ⟨c,hc,rfl⟩ : ∃ c,ns[i]? = some c/\x=V.int c:=by
       rw [List.getElem?_map] at hx;cases e:ns[i]? with
       | none=>rw [e] at hx;cases hx
       | some t=>rw [e] at hx;exact ⟨t,rfl,(Option.some.inj hx).symm⟩
     walk_at "rd";have lt0:(zc m ++ row ++ [10] ++ qI rl (ns.take i)).length<=20000:=by have:=zHO rl l3 (ns.take i);rw [List.length_take] at this;rw [List.length_append,List.length_append,List.length_append];simp only [List.length_cons,List.length_nil];omega
     refine ⟨.inl ⟨rfl,_,SqL.of htx⟩,by show 2<=sizeLine;omega,fun p5 np5=>?_⟩;have n35:p3≠p5:=zI htx np5;refine ⟨p3,p5,_,_,rfl,rfl,by rw [zF n35];exact htx,zB,by rw [List.length_map];show _+2<=_;omega,?_⟩;refine hid fun Z_ z_=>?_;have s6:zz H (upd (upd H' p5 (.lst [V.int c,V.int 61])) p3 (.lst ((zc m ++ row ++ [10] ++ qI rl (ns.take i)).map V.int ++ [V.int c,V.int 61]))):=jY (sm.trans (zK np5)) h3;obtain ⟨rw1,hlk,hmem⟩:=zUP (perm.mem_iff.mp (List.mem_of_getElem? hc));obtain ⟨o,hget,ho⟩:=zKe (hrl.mono s6) c;rw [hlk] at ho;obtain ⟨r,rfl,hr6⟩:=ho;refine z_ ?_;clear z_;have lrow:rw1.length<=255:=l3 _ hmem;refine ⟨.inl ⟨rfl,_,SqL.of zB⟩,_,rfl,_,rfl,d,_,rfl,hget,?_⟩;refine ⟨p3,r,_,_,rfl,rfl,zB,hr6,by rw [List.length_append,List.length_map,List.length_map];show _+2+_<=_;omega,?_⟩;refine ⟨.inl ⟨rfl,_,SqL.of zB⟩,p3,_,_,rfl,rfl,zB,by rw [List.length_append,List.length_append,List.length_map,List.length_map];show _+2+_ < _;omega,?_⟩;rw [z5,z5];have n3s' : ps≠p3:=fun z=>n3s z.symm;refine ⟨_,rfl,jY (sm.trans (zK np5)) h3,by rw [zF n3s'];exact zK np5 _ _ hns,?_⟩;rw [zB,take_snoc hc];have ert:qI rl (ns.take i ++ [c])=qI rl (ns.take i) ++ (c :: 61 :: (rw1 ++ [10])):=by unfold qI;rw [List.flatMap_append];simp [rowOf,hlk]
     rw [ert];simp
   . rintro Z H' ⟨v4,rfl,sm,hns,htx⟩;rw [List.length_map,List.take_length] at htx;walk_at "rd";exact q ns perm srt p3 H' sm h3 htx
end
theorem zLj {d:Addr}{o:Obj}{kvs:List (Key×V)}{g:TG}{tb:TS}{D:Ends}{Z:L2.St}{H:Hp}(Pv:Nat->L2.St->Hp->Prop)(h0:Pv 0 Z H)(hl:∀ i Z H,i<=kvs.length->Pv i Z H->H d=some (.frz o (.dK kvs)))(hs:∀ i k v Z H,kvs[i]? = some (k,v)->Pv i Z H->g (kV k) Z H fun σ2 H2=>tb { D with nx:=Pv (i+1),ct:=Pv (i+1),bk:=D.nx } σ2 H2)(hd:∀ Z H,Pv kvs.length Z H->D.nx Z H) : ∃ W:Nat->Nat->L2.St->Hp->Prop,(∃ m,W 0 m Z H)/\∀ i m Z H,W i m Z H->
     ((Itk d o kvs).stop i H/\D.nx Z H)\/((Itk d o kvs).go i H/\∃ N:L2.St->Hp->Prop,(∀ Z' H',N Z' H'->∃ m',m' < m/\W (i+1) m' Z' H')/\∀ x H',(Itk d o kvs).yld i H x H'->g x Z H' fun σ2 H2=>tb { D with nx:=N,ct:=N,bk:=D.nx } σ2 H2):=by
 refine ⟨fun i m Z H=>m=kvs.length - i/\i<=kvs.length/\Pv i Z H,⟨kvs.length,by simp,Nat.zero_le _,h0⟩,?_⟩;rintro i m Z H ⟨rfl,hi,pv⟩;have hf:=hl i Z H hi pv;by_cases e:i < kvs.length
 . refine .inr ⟨⟨hf,e⟩,Pv (i+1),fun Z' H' h=>⟨_,by omega,rfl,by omega,h⟩,?_⟩;rintro x H' ⟨rfl,k,v,hk,rfl⟩;exact hs i k v Z H' hk pv
 . have:i=kvs.length:=(by omega);subst this;exact .inl ⟨⟨hf,Nat.le_refl _⟩,hd Z H pv⟩
def tkv (tl:List (Int×Int)):List (Key×V):=tl.map fun x=>(Sum.inl x.1,V.int x.2)
theorem zZH (c:Int):∀ tl:List (Int×Int),zFy (tkv tl) (Sum.inl c)=(zSH tl c).map V.int
 | []=>rfl
 | x :: tl=>by
   have ih:=zZH c tl;unfold zFy zSH at *;show ((List.find? _ ((Sum.inl x.1,V.int x.2) :: tkv tl)).map _)=_;rw [List.find?_cons,List.find?_cons];by_cases e:x.1=c
   . simp [e]
   . have e1:decide ((Sum.inl x.1:Key)=Sum.inl c)=false:=decide_eq_false fun z=>e (Sum.inl.inj z);simp only [e1,e,decide_false];exact ih
theorem zZY (c:Int)(tl:List (Int×Int)):((tkv tl).any fun kv=>decide (kv.1=Sum.inl c))=tl.any fun x=>decide (x.1=c):=by unfold tkv;rw [List.any_map];congr 1;funext x;simp only [Function.comp];exact decide_eq_decide.mpr ⟨fun z=>Sum.inl.inj z,fun z=>by rw [z]⟩
theorem zYp (c v:Int)(tl:List (Int×Int)):putK (tkv tl) (Sum.inl c) (V.int v)=tkv (zFD tl c v):=by
 unfold putK zFD;rw [zZY];split
 . unfold tkv;rw [List.map_map,List.map_map];apply List.map_congr_left;intro x _;simp only [Function.comp];by_cases e:x.1=c
   . rw [if_pos (by rw [e]),if_pos e]
   . rw [if_neg fun z=>e (Sum.inl.inj z),if_neg e]
 . unfold tkv;rw [List.map_append];rfl
theorem zPl (tl:List (Int×Int))(c:Int):((zSH tl c).map V.int).getD (V.int 0)=V.int (cnt tl c):=by unfold cnt;cases zSH tl c <;> rfl
theorem zOH (tl:List (Int×Int)):(tkv tl).length=tl.length:=List.length_map _
theorem zQr {H:Hp}{d:Addr}{tl:List (Int×Int)}(h:Rd H d (.dK (tkv tl)))(c:Int):zK7 H d (.int c) ((zSH tl c).map V.int):=by rw [<- zZH];exact .inl ⟨_,Sum.inl c,h,rfl,rfl⟩
theorem zWF {H:Hp}{d:Addr}{tl:List (Int×Int)}(h:H d=some (.dK (tkv tl)))(c v:Int)(hl:tl.length < sizeLine):zTj H d (.int c) (.int v) (upd H d (.dK (tkv (zFD tl c v)))):=by rw [<- zYp];exact zTj.k (k:=Sum.inl c) h (by rw [zOH];exact hl)
theorem int_at {ns:List Int}{i:Nat}{x:V}(hx:(ns.map V.int)[i]? = some x):∃ c,ns[i]? = some c/\x=V.int c:=by
 rw [List.getElem?_map] at hx;cases e:ns[i]? with
 | none=>rw [e] at hx;cases hx
 | some t=>rw [e] at hx;exact ⟨t,rfl,(Option.some.inj hx).symm⟩
theorem zPm (tl:List (Int×Int))(c v:Int):(zFD tl c v).length<=tl.length+1:=by
 unfold zFD;split
 . simp
 . simp
theorem zOI (l:List Int)(c:Int):QD (l ++ [c])=zFD (QD l) c (cnt (QD l) c+1):=by unfold QD;rw [List.foldl_append];rfl
theorem zQs (l:List Int):(QD l).length<=l.length:=by
 unfold QD
 suffices h:∀ (l:List Int) (a:List (Int×Int)),(l.foldl (fun l c=>zFD l c (cnt l c+1)) a).length<=a.length+l.length by simpa using h l []
 intro l
 induction l with
 | nil=>intro a;simp
 | cons c l ih =>intro a;rw [List.foldl_cons];have:=ih (zFD a c (cnt a c+1));have:=zPm a c (cnt a c+1);rw [List.length_cons];omega
section
inductive zOJ (vs:List V)(H:Hp)(Q:VK)(E:XK):Prop | m (a:Addr)(ns:List Int)(_:vs=[.ref a])(_:H a=some (.lst (ns.map V.int)))(_:ns.length < sizeLine)(_:∀ p H',zz H H'->H p=none->H' p=some (.dK (tkv (QD ns)))->Q (.ref p) H')
theorem zIl (T:Txt K mg A):qM P w K mg base CX0 1 A.zCT A.zE4 ["row"] zOJ:=by
 refine T.Q9.okc zFg fun vs H Q E h=>?_
 . obtain ⟨a,ns,rfl,ha,hz,q⟩:=h;refine ⟨rfl,fun _ _ _ s hr=>⟨_,(zC (sA 1 zFg.nd zEn) (zC (JZ PassesOwn.never rfl (zDk (pv 0)) (z8 (i:=2) zFg.nd rfl (Or.inl rfl)) (zE (zGl (zAF hr) (pv 1) (pv 2) (z9 ZK (zHn (zAF hr) (pv 1) (pv 2) zM (by constructor <;> rfl)) zM) rfl))) (zE (zN (pv 1))))),?_⟩⟩;show Zv _ _ _ [some (.ref a),none,none] H;intro p np;refine ⟨_,rfl,_,rfl,⟨_,SqL.of (zK np _ _ ha)⟩,zEm (K:=K) (a:=a) (xs:=ns.map V.int)
     (fun i Z H'=>∃ v2:Option V,Z=[some (.ref a),some (.ref p),v2]/\zz H H'/\H' p=some (.dK (tkv (QD (ns.take i)))))
     ⟨none,rfl,zK np,zB⟩ (fun i Z H' _ ⟨_,_,sm,_⟩=>SqL.of (sm _ _ ha)) ?_ ?_⟩
   . rintro i x Z H' hx ⟨v2,rfl,sm,hp⟩;obtain ⟨c,hc,rfl⟩:=int_at hx;walk_at "dd";refine ⟨.inl ⟨_,.inl hp⟩,_,zQr (.inl hp) c,_,zPl _ _,_,zWF hp c _ (by have:=zQs (ns.take i);rw [List.length_take] at this;omega),jY sm np,by rw [zB,take_snoc hc,zOI]⟩
   . rintro Z H' ⟨v2,rfl,sm,hp⟩;rw [List.length_map,List.take_length] at hp;walk_at "dd";exact q p H' sm np hp
inductive zNI (vs:List V)(H:Hp)(Q:VK)(E:XK):Prop | m (a d:Addr)(ns:List Int)(rl:RL)(_:vs=[.ref a,.ref d])(_:H a=some (.lst (ns.map V.int)))(_:jX H d rl)(_:(zLR rl ns).length < sizeLine)(_:∀ p H',zz H H'->H p=none->H' p=some (.lst ((zLR rl ns).map V.int))->Q (.ref p) H')
theorem zIm (rl:RL)(l:List Int)(c:Int):zLR rl (l ++ [c])=zLR rl l ++ (look rl c).getD [c]:=by unfold zLR;rw [List.flatMap_append];simp
theorem zLk (rl:RL)(ns:List Int)(i:Nat):(zLR rl (ns.take i)).length<=(zLR rl ns).length:=by
 have e:zLR rl ns=zLR rl (ns.take i) ++ zLR rl (ns.drop i):=by unfold zLR;rw [<- List.flatMap_append,List.take_append_drop]
 rw [e,List.length_append];omega
theorem zNJ (T:Txt K mg A):qM P w K mg base CX0 1 A.zA7 A.zDG ["signs","rules"] zNI:=by
 refine T.zBH.okc zEF fun vs H Q E h=>?_
 . obtain ⟨a,d,ns,rl,rfl,ha,hd,hz,q⟩:=h;refine ⟨rfl,fun _ _ _ s hr=>⟨_,(zC (sA 2 zEF.nd (qY zD)) (zC (JZ PassesOwn.never rfl (zDk (pv 0)) (z8 (i:=3) zEF.nd rfl (Or.inl rfl)) (zE (z6 (zOm (zUs (zAF hr) (pv 3) (pv 1))) (zE (z7 (zFv PySem.F.plainAttrs_list PySem.F.slot_list_extend PySem.F.type_list_extend zDo (pv 2) (zA (zDq (zAF hr) (pv 1) (pv 3) (fun _ _=>rfl)) zD)))) (zE (z7 (zFv PySem.F.plainAttrs_list PySem.F.slot_list_append PySem.F.type_list_append zAj (pv 2) (zA (pv 3) zD))))))) (zE (zN (pv 2))))),?_⟩⟩;show Zv _ _ _ [some (.ref a),some (.ref d),none,none] H;refine ⟨by show 0<=sizeLine;omega,fun p np=>?_⟩;refine ⟨_,rfl,_,rfl,⟨_,SqL.of (zK np _ _ ha)⟩,zEm (K:=K) (a:=a) (xs:=ns.map V.int)
     (fun i Z H'=>∃ v2:Option V,Z=[some (.ref a),some (.ref d),some (.ref p),v2]/\zz H H'/\H' p=some (.lst ((zLR rl (ns.take i)).map V.int)))
     ⟨none,rfl,zK np,zB⟩ (fun i Z H' _ ⟨_,_,sm,_⟩=>SqL.of (sm _ _ ha)) ?_ ?_⟩
   . rintro i x Z H' hx ⟨v2,rfl,sm,hp⟩;obtain ⟨c,hc,rfl⟩:=int_at hx;walk_at "dd";obtain ⟨o,hget,ho⟩:=zKe (hd.mono sm) c;have lt:=zLk rl ns (i+1);rw [take_snoc hc,zIm,List.length_append] at lt;refine ⟨o,hget,?_⟩;cases q1:look rl c with
     | none =>rw [q1] at ho lt;subst ho;simp only [Option.getD_none,List.length_cons,List.length_nil] at lt;rw [if_neg (by decide)];refine ⟨.inl ⟨rfl,_,SqL.of hp⟩,_,hp,by rw [List.length_map];omega,jY sm np,?_⟩;rw [zB,take_snoc hc,zIm,q1];simp
     | some row =>rw [q1] at ho lt;obtain ⟨r,rfl,hr6⟩:=ho;simp only [Option.getD_some] at lt;rw [if_pos (Option.isSome_some ..)];refine ⟨.inl ⟨rfl,_,SqL.of hp⟩,_,hget,r,rfl,_,hp,_,hr6,by rw [List.length_map,List.length_map];omega,jY sm np,?_⟩;rw [zB,take_snoc hc,zIm,q1];simp
   . rintro Z H' ⟨v2,rfl,sm,hp⟩;rw [List.length_map,List.take_length] at hp;walk_at "dd";exact q p H' sm np hp
end
section
inductive zJp (vs:List V)(H:Hp)(Q:VK)(E:XK):Prop | m (a d:Addr)(row:List Int)(rl:RL)(g:Nat)(_:vs=[.ref a,.ref d,.int g])(_:H a=some (.lst (row.map V.int)))(_:jX H d rl)(_:g<=64)(_:(∀ j,j<=g->(zg rl row j).length < sizeLine))(_:∀ p H',zz H H'->H' p=some (.lst ((zg rl row g).map V.int))->Q (.ref p) H')
theorem zJq (T:Txt K mg A):qM P w K mg base CX0 2 A.Qa A.zAQ ["first_row","rules","g"] zJp:=by
 refine T.Qs.okc JG fun vs H Q E h=>?_
 . obtain ⟨a,d,row,rl,g,rfl,ha,hd,hg,hz,q⟩:=h;refine ⟨rfl,fun _ _ _ s hr=>⟨_,(zC (sA 3 JG.nd (pv 0)) (zC (JZ PassesOwn.never rfl (zMQ rfl T.zJT (zA (pv 2) zD)) (z8 (i:=4) JG.nd rfl (Or.inl rfl)) (zE (sA 3 JG.nd (cA (zNJ T) hr T.zFo T.zBH (bd2 T.zBH) (zA (pv 3) (zA (pv 1) zD)))))) (zE (zN (pv 3))))),?_⟩⟩;show Zv _ _ _ [some (.ref a),some (.ref d),some (.int g),none,none] H;refine ⟨_,rfl,⟨_,rfl,g,rfl,by omega,by omega,zRK (lo:=0) (n:=(g:Int).toNat)
     (fun i Z H'=>∃ (r:Addr)(v4:Option V),Z=[some (.ref a),some (.ref d),some (.int g),some (.ref r),v4]/\zz H H'/\H' r=some (.lst ((zg rl row i).map V.int)))
     ⟨a,none,rfl,fun _ _ e=>e,ha⟩ ?_ ?_⟩⟩
   . rintro i Z H' hi ⟨r,v4,rfl,sm,hr1⟩;walk_at "dd";refine ⟨r,d,_,rl,rfl,hr1,hd.mono sm,hz (i+1) (by omega),fun p H2 s2 np hp=>?_⟩;exact ⟨p,_,⟨rfl,rfl⟩,sm.trans s2,hp⟩
   . rintro Z H' ⟨r,v4,rfl,sm,hr1⟩;walk_at "dd";exact q r H' sm hr1
def Small (t:List (Int×Int)):Prop:=∀ x∈t,0<=x.2/\x.2<=255
inductive zNK (vs:List V)(H:Hp)(Q:VK)(E:XK):Prop | m (a b:Addr)(acc t:List (Int×Int))(n:Int)(_:vs=[.ref a,.ref b,.int n])(_:a≠b)(_:H a=some (.dK (tkv acc)))(_:H b=some (.dK (tkv t)))(_:ND t)(_:Small t)(_:acc.length+t.length < sizeLine)(_:Q .non (upd H a (.dK (tkv (zJV acc t n)))))
theorem zSy (acc t:List (Int×Int))(n:Int)(x:Int×Int):zJV acc (t ++ [x]) n=zFD (zJV acc t n) x.1 (cnt (zJV acc t n) x.1+x.2 * n):=by unfold zJV;rw [List.foldl_append];rfl
theorem zPn (n:Int):∀ (t acc:List (Int×Int)),(zJV acc t n).length<=acc.length+t.length
 | [],acc=>by simp [zJV]
 | x :: t,acc=>by have:=zPn n t (zFD acc x.1 (cnt acc x.1+x.2 * n));have:=zPm acc x.1 (cnt acc x.1+x.2 * n);show (zJV (zFD acc x.1 (cnt acc x.1+x.2 * n)) t n).length<=_;rw [List.length_cons];omega
theorem zVM {t:List (Int×Int)}{i:Nat}{k:Key}{v:V}(h:(tkv t)[i]? = some (k,v)):∃ x,t[i]? = some x/\k=Sum.inl x.1/\v=V.int x.2:=by
 unfold tkv at h;rw [List.getElem?_map] at h;cases e:t[i]? with
 | none=>rw [e] at h;cases h
 | some x=>rw [e] at h;injection h with h;injection h with h1 h2;exact ⟨x,rfl,h1.symm,h2.symm⟩
theorem zLl {t:List (Int×Int)}(h:ND t){x:Int×Int}(hx:x∈t):zSH t x.1=some x.2:=by
 induction t with
 | nil=>cases hx
 | cons y t ih =>
   unfold zSH;rw [List.find?_cons];by_cases e:y.1=x.1
   . rcases List.mem_cons.mp hx with rfl | hm
     . simp
     . have:(y :: t).map (·.1) |>.Nodup:=h;rw [List.map_cons,List.nodup_cons] at this;exact absurd (e ▸ List.mem_map.mpr ⟨x,hm,rfl⟩) this.1
   . rcases List.mem_cons.mp hx with rfl | hm
     . exact absurd rfl e
     . have:(y :: t).map (·.1) |>.Nodup:=h;rw [List.map_cons,List.nodup_cons] at this;have:=ih this.2 hm;unfold zSH at this;simp only [e,decide_false];exact this
theorem zNL (T:Txt K mg A):qM P w K mg base CX0 1 A.zA6 A.zDF ["tally","added","times"] zNK:=by
 refine T.zBF.okc zHM fun vs H Q E h=>?_
 . obtain ⟨a,b,acc,t,n,rfl,ne,ha,hb,nd,sm,hz,q⟩:=h;refine ⟨rfl,fun _ _ _ s hr=>⟨_,(zE (zLA (JZ PassesOwn.never rfl (zNq (pv 1)) (z8 (i:=3) zHM.nd rfl (Or.inl rfl)) (zE (zGl (zAF hr) (pv 0) (pv 3) (z9 ZK (zHn (zAF hr) (pv 0) (pv 3) zM (by constructor <;> rfl)) (z9 zDb (zDq (zAF hr) (pv 1) (pv 3) (fun _ _=>rfl)) (pv 2))) rfl))))),?_⟩⟩;show zTl _ _ [some (.ref a),some (.ref b),some (.int n),none] H;refine ⟨b,_,hb,trivial,fun od=>⟨_,rfl,b,od,rfl,.inl ⟨_,zB,zLj
     (fun i Z H'=>∃ v3:Option V,Z=[some (.ref a),some (.ref b),some (.int n),v3]/\H' = upd (upd H b (.frz od (.dK (tkv t)))) a (.dK (tkv (zJV acc (t.take i) n))))
     ⟨none,rfl,?_⟩ ?_ ?_ ?_⟩⟩⟩
   . have e0:zJV acc (t.take 0) n=acc:=rfl;rw [e0];funext c;by_cases h:c=a
     . subst h;rw [zB,zF ne];exact ha
     . rw [zF h]
   . rintro i Z H' hi ⟨v3,_,rfl⟩;rw [zF (fun z=>ne z.symm),zB]
   . rintro i k v Z H' hk ⟨v3,rfl,rfl⟩;obtain ⟨x,hx,rfl,rfl⟩:=zVM hk;have hbH:(upd (upd H b (.frz od (.dK (tkv t)))) a (.dK (tkv (zJV acc (t.take i) n)))) b=some (.frz od (.dK (tkv t))):=by rw [zF (fun z=>ne z.symm),zB]
     have xm:=List.mem_of_getElem? hx;have hg2:=zQr (c:=x.1) (.inr ⟨od,hbH⟩);rw [zLl nd xm] at hg2;walk_at "dd";have bd:=sm x xm;refine ⟨.inl ⟨_,.inl zB⟩,_,zQr (.inl zB) x.1,_,hg2,x.2,rfl,.inl (by omega),_,zPl _ _,?_⟩;have hp:=zWF (H:=upd (upd H b (.frz od (.dK (tkv t)))) a (.dK (tkv (zJV acc (t.take i) n)))) (d:=a) zB x.1 (cnt (zJV acc (t.take i) n) x.1+x.2 * n) (by have:=zPn n (t.take i) acc;rw [List.length_take] at this;omega);rw [z5,<- zSy,<- take_snoc hx] at hp;exact hp
   . rintro Z H' ⟨v3,rfl,rfl⟩;rw [zOH,List.take_length];refine ⟨by rw [zF (fun z=>ne z.symm),zB],?_⟩;have e:upd (upd (upd H b (.frz od (.dK (tkv t)))) a (.dK (tkv (zJV acc t n)))) b (.dK (tkv t))=upd H a (.dK (tkv (zJV acc t n))):=by
       funext c;by_cases h:c=b
       . subst h;rw [zB,zF (fun z=>ne z.symm)];exact hb.symm
       . by_cases h2:c=a
         . subst h2;rw [zF h,zB,zB]
         . rw [zF h,zF h2,zF h,zF h2]
     rw [e];exact q
end
def hide (H:Hp)(l:List Addr):Hp:=fun b=>if b∈l then none else H b
theorem zG {H:Hp}{l:List Addr}{b:Addr}{o:HO}:hide H l b=some o↔b∉l/\H b=some o:=by
 unfold hide;split
 . rename_i h;simp [h]
 . rename_i h;simp [h]
theorem zEG (H:Hp)(l:List Addr):zz (hide H l) H:=fun _ _ e=>(zG.mp e).2
theorem zZ {H H' : Hp}{l:List Addr}(s:zz H H'):zz (hide H l) (hide H' l):=fun b o e=>by obtain ⟨h1,h2⟩:=zG.mp e;exact zG.mpr ⟨h1,s _ _ h2⟩
theorem zPo {H:Hp}{l:List Addr}{a:Addr}{o:HO}(h:a∈l):zz (hide H l) (upd H a o):=fun b u e=>by obtain ⟨h1,h2⟩:=zG.mp e;rw [zF (fun z:b=a=>h1 (by rw [z];exact h))];exact h2
theorem zPp {H:Hp}{l:List Addr}{a:Addr}{o:HO}(h:a∈l):hide (upd H a o) l=hide H l:=by
 funext b;unfold hide;split
 . rfl
 . rename_i h1;rw [zF (fun z:b=a=>h1 (by rw [z];exact h))]
def zOK (H:Hp)(bl:Addr)(BL:List (Int×List (Int×Int))):Prop:=∃ kvs:List (Key×V),H bl=some (.dK kvs)/\Paired (fun (kv:Key×V) (x:Int×List (Int×Int))=>kv.1=Sum.inl x.1/\∃ r,kv.2=.ref r/\H r=some (.dK (tkv x.2))) kvs BL
theorem zOK.mono {H H' : Hp}{d:Addr}{BL:List (Int×List (Int×Int))}(h:zOK H d BL)(s:zz H H'):zOK H' d BL:=by obtain ⟨kvs,hd,hp⟩:=h;exact ⟨kvs,s _ _ hd,Paired.zFH hp fun kv x h=>⟨h.1,let ⟨r,e1,e2⟩:=h.2;⟨r,e1,s _ _ e2⟩⟩⟩
theorem zKf {H:Hp}(c:Int):∀ {kvs:List (Key×V)}{rl:List (Int×List (Int×Int))},Paired (fun (kv:Key×V) (x:Int×List (Int×Int))=>kv.1=Sum.inl x.1/\∃ r,kv.2=.ref r/\H r=some (.dK (tkv x.2))) kvs rl-> match zCG rl c with
   | some t=>∃ r,zFy kvs (Sum.inl c)=some (.ref r)/\H r=some (.dK (tkv t))
   | none=>zFy kvs (Sum.inl c)=none
 | _,_,.nil=>rfl
 | (k,v) :: kvs,x :: rl,.cons h t=>by
   obtain ⟨h1,r,h2,h3⟩:=h;have h1' : k=Sum.inl x.1:=h1;have h2' : v=V.ref r:=h2;subst h1' h2';by_cases e:x.1=c
   . have:zCG (x :: rl) c=some x.2:=by unfold zCG;rw [List.find?_cons];simp [e]
     rw [this];refine ⟨r,?_,h3⟩;unfold zFy;rw [List.find?_cons];simp [e]
   . have e1:zCG (x :: rl) c=zCG rl c:=by unfold zCG;rw [List.find?_cons];simp [e]
     have e2:zFy ((Sum.inl x.1,V.ref r) :: kvs) (Sum.inl c)=zFy kvs (Sum.inl c):=by unfold zFy;rw [List.find?_cons];have:(decide ((Sum.inl x.1:Key)=Sum.inl c))=false:=decide_eq_false fun z=>e (Sum.inl.inj z);rw [this]
     rw [e1,e2];exact zKf c t
theorem zQt {H:Hp}{d:Addr}{BL:List (Int×List (Int×Int))}(h:zOK H d BL)(c:Int):∃ o,zK7 H d (.int c) o/\(match zCG BL c with
   | some t=>∃ r,o=some (.ref r)/\H r=some (.dK (tkv t))
   | none=>o=none):=by
 obtain ⟨kvs,hd,hp⟩:=h;exact ⟨_,zK7.k (k:=Sum.inl c) hd,zKf c hp⟩
theorem zSz {H H' : Hp}{a:Addr}{u:HO}(h:Rd H a u)(s:zz H H'):Rd H' a u:=by
 rcases h with h | ⟨o,h⟩
 . exact .inl (s _ _ h)
 . exact .inr ⟨o,s _ _ h⟩
theorem zS0 {H H' : Hp}{a:Addr}{y:V}{o:Option V}(h:zK7 H a y o)(s:zz H H'):zK7 H' a y o:=by
 rcases h with ⟨kvs,k,h1,h2,h3⟩ | ⟨kvs,k,b,h1,h2,h3,h4⟩
 . exact .inl ⟨kvs,k,zSz h1 s,h2,h3⟩
 . exact .inr ⟨kvs,k,b,zSz h1 s,h2,s _ _ h3,h4⟩
def zUQ:List Int:=(List.range 256).map Int.ofNat
theorem zS1 {x:Int}(h:qS x):x∈zUQ:=by obtain ⟨h1,h2⟩:=h;exact List.mem_map.mpr ⟨x.toNat,List.mem_range.mpr (by omega),by show ((x.toNat:Nat):Int)=x;omega⟩
structure Tly (t:List (Int×Int)):Prop where
 nd:ND t
 by_:∀ x∈t.map (·.1),qS x
theorem Tly.len {t:List (Int×Int)}(h:Tly t):t.length<=256:=by
 have:=zMr h.nd (m:=zUQ) fun x hx=>zS1 (h.by_ x hx);rw [List.length_map] at this;have e:zUQ.length=256:=by unfold zUQ;rw [List.length_map,List.length_range]
 omega
theorem Tly.put {t:List (Int×Int)}(h:Tly t){c v:Int}(hc:qS c):Tly (zFD t c v) :=
 ⟨zIK h.nd,fun x hx=>by
   rw [zMq] at hx;split at hx
   . exact h.by_ x hx
   . rcases List.mem_append.mp hx with hx | hx
     . exact h.by_ x hx
     . rw [List.mem_singleton.mp hx];exact hc⟩
theorem Tly.nil:Tly []:=⟨by simp [ND],by simp⟩
theorem Tly.add (n:Int):∀ {t acc:List (Int×Int)},Tly acc->(∀ x∈t.map (·.1),qS x)->Tly (zJV acc t n)
 | [],_,h,_=>h
 | x :: t,acc,h,h2=>Tly.add n (t:=t) (acc:=zFD acc x.1 (cnt acc x.1+x.2 * n)) (h.put (h2 _ List.mem_cons_self)) fun y hy=>h2 y (List.mem_cons_of_mem _ hy)
theorem Tly.ofL:∀ (row:List Int) (acc:List (Int×Int)),Tly acc->(∀ x∈row,qS x)->Tly (row.foldl (fun l c=>zFD l c (cnt l c+1)) acc)
 | [],_,h,_=>h
 | c :: row,acc,h,h2=>Tly.ofL row _ (h.put (h2 _ List.mem_cons_self)) fun y hy=>h2 y (List.mem_cons_of_mem _ hy)
theorem zKg {row:List Int}(h:∀ x∈row,qS x):Tly (QD row):=Tly.ofL row [] Tly.nil h
theorem Tly.step {BL:List (Int×List (Int×Int))}(hB:∀ c t,zCG BL c=some t->Tly t){acc:List (Int×Int)}(h:Tly acc){x:Int×Int}(hx:qS x.1):Tly (stepT BL acc x):=by
 unfold stepT;split
 . rename_i t e;exact h.add x.2 (hB _ _ e).by_
 . exact h.put hx
theorem Tly.fold {BL:List (Int×List (Int×Int))}(hB:∀ c t,zCG BL c=some t->Tly t):∀ (t acc:List (Int×Int)),Tly acc->(∀ x∈t.map (·.1),qS x)->Tly (t.foldl (stepT BL) acc)
 | [],_,h,_=>h
 | x :: t,acc,h,h2=>Tly.fold hB t _ (h.step hB (h2 _ List.mem_cons_self)) fun y hy=>h2 y (List.mem_cons_of_mem _ hy)
theorem Tly.take {t:List (Int×Int)}(h:Tly t)(i:Nat):∀ x∈(t.take i).map (·.1),qS x:=fun x hx=>by obtain ⟨y,hy,rfl⟩:=List.mem_map.mp hx;exact h.by_ _ (List.mem_map.mpr ⟨y,List.mem_of_mem_take hy,rfl⟩)
section
inductive zS2 (C:Addr)(vs:List V)(H:Hp)(Q:VK)(E:XK):Prop | m (x a dx bl:Addr)(fs:List (Str×V))(BL:List (Int×List (Int×Int)))(t:List (Int×Int))(_:vs=[.ref x,.ref a])(_:H x=some (.ins C dx fs))(_:fs.lookup ("by_letter" : Str)=some (V.ref bl))(_:zOK (hide H [a]) bl BL)(_:(∀ c t,zCG BL c=some t->Tly t/\Small t))(_:H a=some (.dK (tkv t)))(_:Tly t)(_:∀ p H',zz H H'->H p=none->H' p=some (.dK (tkv (zZD BL t)))->Q (.ref p) H')
theorem zKh (BL:List (Int×List (Int×Int)))(t acc:List (Int×Int))(x:Int×Int):(t ++ [x]).foldl (stepT BL) acc=stepT BL (t.foldl (stepT BL) acc) x:=by rw [List.foldl_append];rfl
theorem zG4 (T:Txt K mg A):qM P w K mg base CX0 2 A.jd A.Zm ["self","tally"] (zS2 A.zy):=by
 refine T.Zq.okc Q4 fun vs H Q E h=>?_
 . obtain ⟨x,a,dx,bl,fs,BL,t,rfl,hx,hf,hbl,hB,ha,ht,q⟩:=h;refine ⟨rfl,fun _ _ _ s hr=>⟨_,(zC (sA 2 Q4.nd zEn) (zC (zLA (JZ PassesOwn.never rfl (zNq (pv 1)) (z8 (i:=3) Q4.nd rfl (Or.inl rfl)) (zE (z6 (zOm (zUs (zAF hr) (pv 3) (zU (pv 0) rfl))) (zE (z7 (cA (zNL T) hr T.zFn T.zBF (bd3 T.zBF) (zA (pv 2) (zA (zDq (zAF hr) (zU (pv 0) rfl) (pv 3) (fun _ _=>rfl)) (zA (zDq (zAF hr) (pv 1) (pv 3) (fun _ _=>rfl)) zD)))))) (zE (zGl (zAF hr) (pv 2) (pv 3) (z9 ZK (zHn (zAF hr) (pv 2) (pv 3) zM (by constructor <;> rfl)) (zDq (zAF hr) (pv 1) (pv 3) (fun _ _=>rfl))) rfl)))))) (zE (zN (pv 2))))),?_⟩⟩;show Zv _ _ _ [some (.ref x),some (.ref a),none,none] H;intro p np;have big:=sizeLine_eq;have npa:a≠p:=zI ha np;refine ⟨a,.dK (tkv t),by rw [zF npa];exact ha,trivial,fun od=>⟨_,rfl,a,od,rfl,.inl ⟨_,zB,zLj
     (fun i Z H'=>∃ v3:Option V,Z=[some (.ref x),some (.ref a),some (.ref p),v3]/\zz (hide H [a]) H'/\H' a=some (.frz od (.dK (tkv t)))/\H' p=some (.dK (tkv ((t.take i).foldl (stepT BL) []))))
     ⟨none,rfl,?_,zB,?_⟩ ?_ ?_ ?_⟩⟩⟩
   . intro b o e;obtain ⟨h1,h2⟩:=zG.mp e;rw [zF (fun z:b=a=>h1 (by rw [z];exact List.mem_singleton.mpr rfl)),zF (zI h2 np)];exact h2
   . rw [zF (fun z=>npa z.symm),zB];rfl
   . rintro i Z H' hi ⟨v3,_,_,h,_⟩;exact h
   . rintro i k v Z H' hk ⟨v3,rfl,sm,hfr,hp⟩;obtain ⟨y,hy,rfl,rfl⟩:=zVM hk;have ym:=List.mem_of_getElem? hy;have yb:qS y.1:=ht.by_ _ (List.mem_map.mpr ⟨y,ym,rfl⟩);have hxH:H' x=some (.ins A.zy dx fs):=sm _ _ (zG.mpr ⟨(fun z=>by rw [List.mem_singleton.mp z,ha] at hx;cases hx),hx⟩);obtain ⟨o,hget0,ho⟩:=zQt hbl y.1;have hget:=zS0 hget0 sm;have hga:=zQr (c:=y.1) (.inr ⟨od,hfr⟩);rw [zLl ht.nd ym] at hga;have hacc:Tly ((t.take i).foldl (stepT BL) []):=Tly.fold (fun c t h=>(hB c t h).1) _ _ Tly.nil (ht.take i);walk_at "dd";have fin:∀ v,zz (hide H [a]) (upd H' p v):=fun v b o e=>by
       rw [zF (zI (zG.mp e).2 np)];exact sm _ _ e
     refine ⟨_,_,_,hxH,T.jR,T.qF,_,hf,bl,rfl,o,hget,?_⟩;cases q1:zCG BL y.1 with
     | some t' =>
       refine hid fun Z_ z_=>?_;rw [q1] at ho;obtain ⟨r,rfl,hr0⟩:=ho;have hr6:=sm _ _ hr0;obtain ⟨b1,b2⟩:=hB _ _ q1;refine z_ ?_;clear z_;rw [if_pos (Option.isSome_some ..)];refine ⟨_,_,_,hxH,T.jR,T.qF,_,hf,bl,rfl,_,hget,_,hga,p,r,_,t',y.2,rfl,?_,hp,hr6,b1.nd,b2,?_,fin _,?_,?_⟩
       . intro z;exact zI (zG.mp hr0).2 np z.symm
       . have:=hacc.len;have:=b1.len;omega
       . rw [zF npa];exact hfr
       . rw [zB,take_snoc hy,zKh];unfold stepT;rw [q1]
     | none =>
       rw [q1] at ho;subst ho;rw [if_neg (by decide)];refine ⟨.inl ⟨_,.inl hp⟩,_,zQr (.inl hp) y.1,_,hga,_,zPl _ _,_,rfl,_,zWF hp y.1 _ (by have:=hacc.len;omega),fin _,?_,?_⟩
       . rw [zF npa];exact hfr
       . rw [zB,take_snoc hy,zKh];unfold stepT;rw [q1]
   . rintro Z H' ⟨v3,rfl,sm,hfr,hp⟩;rw [zOH,List.take_length] at hp;refine ⟨hfr,?_⟩;walk_at "dd";refine q p _ (fun b o e=>?_) np (by rw [zF (fun z=>npa z.symm)];exact hp);by_cases hb:b=a
     . subst hb;rw [zB,<- ha];exact e
     . rw [zF hb];exact sm _ _ (zG.mpr ⟨by simp [hb],e⟩)
end
theorem zKi {α β:Type}{G:α->β->Prop}:∀ {l:List α}{m:List β}{i:Nat}{a:α},Paired G l m->l[i]? = some a->∃ b,m[i]? = some b/\G a b
 | _,_,i,a,.nil,h=>by simp at h
 | _,_,0,a,.cons r t,h=>by simp at h;subst h;exact ⟨_,rfl,r⟩
 | _,_,i+1,a,.cons r t,h=>by obtain ⟨b,h1,h2⟩:=zKi (i:=i) t (by simpa using h);exact ⟨b,by simpa using h1,h2⟩
theorem zQu (l:RL)(x:Int×List Int):zCf (l ++ [x])=zCf l ++ [(x.1,QD x.2)]:=by unfold zCf;rw [List.map_append];rfl
theorem zS3:∀ {kvs:List (Key×V)}{i:Nat}{k:Key}{v:V},(kvs.map (·.1)).Nodup->kvs[i]? = some (k,v)->zFy kvs k=some v
 | [],i,k,v,_,h=>by simp at h
 | kv :: kvs,0,k,v,nd,h=>by simp at h;subst h;unfold zFy;rw [List.find?_cons];simp
 | kv :: kvs,i+1,k,v,nd,h=>by
   rw [List.map_cons,List.nodup_cons] at nd;have h' : kvs[i]? = some (k,v):=by simpa using h
   have ih:=zS3 nd.2 h';have ne:kv.1≠k:=fun z=>nd.1 (z ▸ List.mem_map.mpr ⟨_,List.mem_of_getElem? h',rfl⟩);unfold zFy at *;rw [List.find?_cons];simp only [ne,decide_false];exact ih
theorem zKj:∀ {rl:RL}{i:Nat}{y:Int×List Int},(rl.map (·.1)).Nodup->rl[i]? = some y->∀ z∈rl.take i,z.1≠y.1
 | [],i,y,_,h=>by simp at h
 | a :: rl,0,y,_,h=>by simp
 | a :: rl,i+1,y,nd,h=>by
   rw [List.map_cons,List.nodup_cons] at nd;have h' : rl[i]? = some y:=by simpa using h
   intro z hz;rw [List.take_succ_cons] at hz;rcases List.mem_cons.mp hz with rfl | hz
   . exact fun e=>nd.1 (e ▸ List.mem_map.mpr ⟨_,List.mem_of_getElem? h',rfl⟩)
   . exact zKj nd.2 h' z hz
theorem zGD:∀ {l:List Int},l.Nodup->(l.map (Sum.inl:Int->Key)).Nodup
 | [],_=>List.nodup_nil
 | a :: l,h=>by rw [List.nodup_cons] at h;rw [List.map_cons,List.nodup_cons];refine ⟨fun z=>?_,zGD h.2⟩;obtain ⟨b,hb,e⟩:=List.mem_map.mp z;exact h.1 (Sum.inl.inj e ▸ hb)
structure zGE (C:Addr)(H:Hp)(t bg:Addr)(rl:RL)(row:List Int):Prop where
 mk ::
 at_:∃ (dx bl:Addr)(gs:List Addr),H t=some (.ins C dx [("by_letter",.ref bl),("by_generation",.ref bg)])/\H bg=some (.lst (gs.map V.ref))/\gs≠[]/\gs.length<=65/\t∉gs/\bg∉gs/\(∀ j r,gs[j]? = some r->H r=some (.dK (tkv (zCH rl row j))))/\zOK (hide H (t :: bg :: gs)) bl (zCf rl)
section
inductive zIn (C:Addr)(vs:List V)(H:Hp)(Q:VK)(E:XK):Prop | m (x a d dx:Addr)(row:List Int)(rl:RL)(_:vs=[.ref x,.ref a,.ref d])(_:H x=some (.ins C dx []))(_:H a=some (.lst (row.map V.int)))(_:jX H d rl)(_:row.length<=255)(_:(∀ y∈rl,y.2.length<=255))(_:rl.length < 64)(_:(rl.map (·.1)).Nodup)(_:∀ bg H',zz (hide H [x]) (hide H' [x,bg])->H bg=none->zGE C H' x bg rl row->Q .non H')
def GT (H H' : Hp)(bl:Addr)(kv:Key×V)(x:Int×List (Int×Int)):Prop:=kv.1=Sum.inl x.1/\∃ r,kv.2=.ref r/\H r=none/\r≠bl/\H' r=some (.dK (tkv x.2))
theorem zIo (T:Txt K mg A):qM P w K mg base CX0 2 A.ZY A.JU ["self","first_row","rules"] (zIn A.zy):=by
 refine T.JX.okc zEE fun vs H Q E h=>?_
 . obtain ⟨x,a,d,dx,row,rl,rfl,hx,ha,hd,l1,l2,l3,nd,q⟩:=h;refine ⟨rfl,fun _ _ _ s hr=>⟨_,(zC (jT (pv 0) zEn rfl) (zC (zLA (JZ PassesOwn.never rfl (zNq (pv 2)) (z8 (i:=3) zEE.nd rfl (Or.inl rfl)) (zE (zGl (zAF hr) (zU (pv 0) rfl) (pv 3) (cA (zIl T) hr T.zE8 T.Q9 (bd1 T.Q9) (zA (zDq (zAF hr) (pv 2) (pv 3) (fun _ _=>rfl)) zD)) rfl)))) (zE (jT (pv 0) (qY (zA (cA (zIl T) hr T.zE8 T.Q9 (bd1 T.Q9) (zA (pv 1) zD)) zD)) rfl)))),?_⟩⟩;show Zv _ _ _ [some (.ref x),some (.ref a),some (.ref d),none] H;have big:=sizeLine_eq;obtain ⟨kvs,hdk,hpd⟩:=id hd;intro bl nbl;have nxbl:x≠bl:=zI hx nbl;have ndbl:d≠bl:=zI hdk nbl;have nabl:a≠bl:=zI ha nbl;have nxd:x≠d:=fun z=>by rw [z,hdk] at hx;cases hx
   have nxa:x≠a:=fun z=>by rw [z,ha] at hx;cases hx
   have nda:d≠a:=fun z=>by rw [z,ha] at hdk;cases hdk
   refine ⟨_,rfl,x,rfl,A.zy,dx,[],by rw [zF nxbl];exact hx,T.jR,T.qF,by decide,?_⟩;refine ⟨d,.dK kvs,by rw [zF (fun z=>nxd z.symm),zF ndbl];exact hdk,trivial,fun od=>⟨_,rfl,d,od,rfl,.inl ⟨_,zB,zLj
     (fun i Z H'=>∃ v3:Option V,Z=[some (.ref x),some (.ref a),some (.ref d),v3]/\zz (hide H [x,d]) H'/\H' d=some (.frz od (.dK kvs))/\H' x=some (.ins A.zy dx [("by_letter",.ref bl)])/\∃ kv2,H' bl=some (.dK kv2)/\Paired (GT H H' bl) kv2 (zCf (rl.take i)))
     ⟨none,rfl,?_,zB,?_,[],?_,.nil⟩ ?_ ?_ ?_⟩⟩⟩
   . intro b o e;obtain ⟨h1,h2⟩:=zG.mp e;simp only [List.mem_cons,List.not_mem_nil,or_false,not_or] at h1;rw [zF h1.2,zF h1.1,zF (zI h2 nbl)];exact h2
   . rw [zF nxd,zB];rfl
   . rw [zF (fun z=>ndbl z.symm),zF (fun z=>nxbl z.symm),zB]
   . rintro i Z H' hi ⟨v3,_,_,h,_⟩;exact h
   . rintro i k v Z H' hk ⟨v3,rfl,sm,hfr,hxH,kv2,hb2,hp2⟩;obtain ⟨y,hy,hkey,r0,hv,hr0⟩:=zKi hpd hk;simp only at hkey hv;subst hkey hv;have hr0' : H' r0=some (.lst (y.2.map V.int)):=sm _ _ (zG.mpr ⟨fun z=>by
       simp only [List.mem_cons,List.not_mem_nil,or_false] at z;rcases z with z | z
       . rw [z,hx] at hr0;cases hr0
       . rw [z,hdk] at hr0;exact absurd hr0 (fun z=>by cases z),hr0⟩)
     have hget:zK7 H' d (.int y.1) (some (.ref r0)):=by have e:=zS3 (by rw [jX.keys (d:=d) hpd];exact zGD nd) hk;exact .inl ⟨kvs,Sum.inl y.1,.inr ⟨od,hfr⟩,rfl,e.symm⟩
     walk_at "dd";refine ⟨_,hget,r0,y.2,rfl,hr0',by have:=l2 y (List.mem_of_getElem? hy);omega,fun p H2 s2 np hp=>?_⟩;have pH:H p=none:=by
       cases e:H p with
       | none=>rfl
       | some o =>
         by_cases e1:p=x
         . subst e1;rw [hxH] at np;cases np
         . by_cases e2:p=d
           . subst e2;rw [hfr] at np;cases np
           . rw [sm p o (zG.mpr ⟨by simp [e1,e2],e⟩)] at np;cases np
     have npbl:p≠bl:=fun z=>by rw [z,hb2] at np;cases np
     have kl:kv2.length < sizeLine:=by have:=Paired.length hp2;unfold zCf at this;rw [List.length_map,List.length_take] at this;omega
     refine ⟨_,_,_,s2 _ _ hxH,T.jR,T.qF,_,rfl,bl,rfl,_,zTj.k (k:=Sum.inl y.1) (s2 _ _ hb2) kl,?_,?_,?_,_,zB,?_⟩
     . intro b o e;obtain ⟨h1,h2⟩:=zG.mp e;rw [zF (zI h2 nbl)];exact s2 _ _ (sm _ _ e)
     . rw [zF ndbl];exact s2 _ _ hfr
     . rw [zF nxbl];exact s2 _ _ hxH
     . rw [zPj,take_snoc hy,zQu]
       . refine zC3 (Paired.zFH hp2 fun kv z h=>?_) ⟨rfl,p,rfl,pH,npbl,by rw [zF npbl];exact hp⟩;refine hid fun Z_ z_=>?_;obtain ⟨e1,r,e2,e3,e4,e5⟩:=h;refine z_ ?_;clear z_;exact ⟨e1,r,e2,e3,e4,by rw [zF e4];exact s2 _ _ e5⟩
       . intro kv hkv;refine hid fun Z_ z_=>?_;obtain ⟨z,hz,e1,_⟩:=zG3 hp2 hkv;refine z_ ?_;clear z_;rw [e1];intro e;have e:=Sum.inl.inj e;unfold zCf at hz;obtain ⟨z',hz',rfl⟩:=List.mem_map.mp hz;exact zKj nd hy _ hz' e
   . rintro Z H' ⟨v3,rfl,sm,hfr,hxH,kv2,hb2,hp2⟩;refine ⟨hfr,?_⟩;walk_at "dd";have ml:kvs.length=rl.length:=Paired.length hpd;rw [ml,List.take_length] at hp2;have sm2:zz (hide H [x]) (upd H' d (.dK kvs)):=fun b o e=>by
       obtain ⟨h1,h2⟩:=zG.mp e;simp only [List.mem_cons,List.not_mem_nil,or_false] at h1;by_cases e2:b=d
       . subst e2;rw [zB,<- hdk];exact h2
       . rw [zF e2];exact sm _ _ (zG.mpr ⟨by simp [h1,e2],h2⟩)
     have frsh:∀ p,(upd H' d (.dK kvs)) p=none->H p=none:=fun p np=>by
       cases e:H p with
       | none=>rfl
       | some o =>
         by_cases e1:p=x
         . subst e1;rw [zF nxd,hxH] at np;cases np
         . rw [sm2 p o (zG.mpr ⟨by simp [e1],e⟩)] at np;cases np
     refine ⟨a,row,rfl,sm2 _ _ (zG.mpr ⟨by simp;exact fun z=>nxa z.symm,ha⟩),by omega,fun g0 H2 s2 ng0 hg0=>⟨by show 1<=sizeLine;omega,fun bg nbg=>?_⟩⟩;have g0H:=frsh g0 ng0;have bg2:(upd H' d (.dK kvs)) bg=none:=s2.free nbg;have bgH:=frsh bg bg2;have nxbg:x≠bg:=zI hx bgH;have nxg0:x≠g0:=zI hx g0H;have nbgg0:g0≠bg:=zI hg0 nbg;have hb3:(upd H' d (.dK kvs)) bl=some (.dK kv2):=by rw [zF (fun z=>ndbl z.symm)];exact hb2
     have nblbg:bl≠bg:=zI hb3 bg2;have nblg0:bl≠g0:=zI hb3 ng0;refine ⟨_,_,_,by rw [zF nxbg];exact s2 _ _ (by rw [zF nxd];exact hxH),T.jR,T.zi,by show 1 < 1000;omega,?_⟩;refine q bg _ ?_ bgH ⟨dx,bl,[g0],?_,?_,by simp,by simp,by simp;exact nxg0,by simp;exact fun z=>nbgg0 z.symm,?_,?_⟩
     . intro b o e;obtain ⟨h1,h2⟩:=zG.mp e;simp only [List.mem_cons,List.not_mem_nil,or_false] at h1;refine zG.mpr ⟨by simp;exact ⟨h1,zI h2 bgH⟩,?_⟩;rw [zF h1,zF (zI h2 bgH)];exact s2 _ _ (sm2 _ _ e)
     . rw [zB];rfl
     . rw [zF (fun z=>nxbg z.symm),zB];rfl
     . intro j r hj;cases j with
       | zero =>simp at hj;subst hj;rw [zF (fun z=>nxg0 z.symm),zF nbgg0];exact hg0
       | succ j=>simp at hj
     . refine ⟨kv2,zG.mpr ⟨by simp;exact ⟨fun z=>nxbl z.symm,nblbg,nblg0⟩,?_⟩,Paired.zFH hp2 fun kv z h=>?_⟩
       . rw [zF (fun z=>nxbl z.symm),zF nblbg];exact s2 _ _ hb3
       . refine hid fun Z_ z_=>?_;obtain ⟨e1,r,e2,e3,e4,e5⟩:=h;refine z_ ?_;clear z_;have nrx:r≠x:=fun z=>by rw [z,hx] at e3;cases e3
         have nrd:r≠d:=fun z=>by rw [z,hdk] at e3;cases e3
         have e6:(upd H' d (.dK kvs)) r=some (.dK (tkv z.2)):=by rw [zF nrd];exact e5
         have nrbg:r≠bg:=zI e6 bg2;have nrg0:r≠g0:=zI e6 ng0;refine ⟨e1,r,e2,zG.mpr ⟨by simp;exact ⟨nrx,nrbg,nrg0⟩,?_⟩⟩;rw [zF nrx,zF nrbg];exact s2 _ _ e6
end
theorem zNM {row:List Int}(h:row.length<=255):Small (QD row):=fun x hx=>by have h1:=zLl (zIM row) hx;have h2:=zGo row x.1;unfold cnt at h2;rw [h1] at h2;have h3:row.count x.1<=row.length:=List.count_le_length;simp at h2;omega
theorem zVN {rl:RL}(h1:∀ y∈rl,y.2.length<=255)(h2:∀ y∈rl,∀ z∈y.2,qS z):∀ c t,zCG (zCf rl) c=some t->Tly t/\Small t:=fun c t h=>by rw [zF3] at h;obtain ⟨r,hr,rfl⟩:=Option.map_eq_some_iff.mp h;obtain ⟨y,hy,_,rfl⟩:=zIP hr;exact ⟨zKg (h2 y hy),zNM (h1 y hy)⟩
theorem zX0 {rl:RL}{row:List Int}(h1:∀ y∈rl,y.2.length<=255)(h2:∀ y∈rl,∀ z∈y.2,qS z)(h3:∀ x∈row,qS x):∀ j,Tly (zCH rl row j)
 | 0=>zKg h3
 | j+1=>Tly.fold (fun c t h=>(zVN h1 h2 c t h).1) _ _ Tly.nil (zX0 h1 h2 h3 j).by_
structure Dat (rl:RL)(row:List Int):Prop where
 zYL:row.length<=255
 rowB:∀ x∈row,qS x
 rlL:∀ y∈rl,y.2.length<=255
 rlB:∀ y∈rl,∀ z∈y.2,qS z
 few:rl.length < 64
 nd:(rl.map (·.1)).Nodup
section
def zX1 (C:Addr)(H:Hp)(t bg dx bl:Addr)(rl:RL)(row:List Int)(gs:List Addr):Prop:=H t=some (.ins C dx [("by_letter",.ref bl),("by_generation",.ref bg)])/\H bg=some (.lst (gs.map V.ref))/\gs≠[]/\gs.length<=65/\t∉gs/\bg∉gs/\(∀ j r,gs[j]? = some r->H r=some (.dK (tkv (zCH rl row j))))/\zOK (hide H (t :: bg :: gs)) bl (zCf rl)
inductive zDe (C:Addr)(vs:List V)(H:Hp)(Q:VK)(E:XK):Prop | m (t bg:Addr)(g:Nat)(row:List Int)(rl:RL)(_:vs=[.ref t,.int g])(_:zGE C H t bg rl row)(_:Dat rl row)(_:g<=64)(_:∀ r H',zz (hide H [t,bg]) (hide H' [t,bg])->zGE C H' t bg rl row->hide H' [t,bg] r=some (.dK (tkv (zCH rl row g)))->Q (.ref r) H')
theorem zHd (T:Txt K mg A):qM P w K mg base CX0 3 A.jw A.QZ ["self","g"] (zDe A.zy):=by
 refine T.Qr.okc zHa fun vs H Q E h=>?_
 . obtain ⟨t,bg,g,row,rl,rfl,hT,D,hg,q⟩:=h;refine ⟨rfl,fun _ _ _ s hr=>⟨_,(zC (zEl PassesOwn.never (zS zDl (zd zQ (by rfl) T.QB PySem.boot_len (zA (zU (pv 0) rfl) zD)) (pv 1) (zX _)) (zE (z7 (zFv PySem.F.plainAttrs_list PySem.F.slot_list_append PySem.F.type_list_append zAj (zU (pv 0) rfl) (zA (mA (pv 0) T.jR T.zAB (zG4 T) hr (bd2 T.Zq) (zA (ixL (zU (pv 0) rfl) (zFA zAD zM)) zD)) zD))))) (zE (zN (ixL (zU (pv 0) rfl) (pv 1))))),?_⟩⟩;show Zv _ _ _ [some (.ref t),some (.int g)] H;have big:=sizeLine_eq;obtain ⟨dx,bl,gs0,i1,i2,i3,i4,i5,i6,i7,i8⟩:=hT.at_;refine ⟨fun m Z H'=>Z=[some (.ref t),some (.int g)]/\zz (hide H [t,bg]) (hide H' [t,bg])/\∃ (gs:List Addr),m=g+1 - gs.length/\zX1 A.zy H' t bg dx bl rl row gs,⟨g+1 - gs0.length,rfl,fun _ _ e=>e,gs0,rfl,i1,i2,i3,i4,i5,i6,i7,i8⟩,?_⟩;rintro m Z H' ⟨rfl,sm,gs,rfl,h1,h2,h3,h4,h5,h6,h7,h8⟩;have lg:(gs.map V.ref).length=gs.length:=List.length_map _;have htb:t≠bg:=fun z=>by rw [z,h2] at h1;cases h1
   walk_at "dd";refine ⟨_,_,_,h1,T.jR,T.zi,_,rfl,bg,rfl,_,.inl (SqL.of h2),?_⟩;rw [lg];by_cases c:gs.length<=g
   . rw [if_pos (decide_eq_true (by omega))];obtain ⟨gi,gl,egs⟩ : ∃ gi gl,gs=gi ++ [gl]:=⟨gs.dropLast,gs.getLast h3,(List.dropLast_concat_getLast h3).symm⟩;have hlast:gs[gi.length]? = some gl:=by rw [egs];simp
     have glm:gl∈gs:=List.mem_of_getElem? hlast;have hgl:=h7 _ _ hlast;refine ⟨fun Z' H2=>Z' = [some (.ref t),some (.int g)]/\zz (hide H [t,bg]) (hide H2 [t,bg])/\∃ p,zX1 A.zy H2 t bg dx bl rl row (gs ++ [p]),?_,?_⟩
     . rintro Z' H2 ⟨e1,e2,p,e3⟩;exact ⟨g+1 - (gs ++ [p]).length,by rw [List.length_append,List.length_singleton];omega,e1,e2,_,rfl,e3⟩
     . refine ⟨_,_,_,h1,T.jR,T.zi,_,rfl,.inl ⟨rfl,_,SqL.of h2⟩,_,_,h1,rfl,_,_,_,h1,T.jR,T.zi,_,rfl,bg,rfl,_,SqL.of h2,.ref gl,?_,?_⟩
       . rw [egs,List.map_append];exact zK1 _ _
       . refine ⟨t,gl,dx,bl,_,zCf rl,zCH rl row gi.length,rfl,h1,rfl,h8.mono ?_,zVN D.rlL D.rlB,hgl,zX0 D.rlL D.rlB D.rowB _,fun p H2 s2 np hp=>?_⟩
         . intro b o e;obtain ⟨e1,e2⟩:=zG.mp e;exact zG.mpr ⟨fun z=>e1 (by rw [List.mem_singleton.mp z];simp [glm]),e2⟩
         . have npt:p≠t:=fun z=>by rw [z,h1] at np;cases np
           have npb:p≠bg:=fun z=>by rw [z,h2] at np;cases np
           have npg:p∉gs:=fun z=>by obtain ⟨j,hj⟩:=List.getElem?_of_mem z;rw [h7 _ _ hj] at np;cases np
           refine ⟨bg,rfl,_,s2 _ _ h2,by rw [lg];omega,rfl,?_,p,?_,?_,?_,?_,?_,?_,?_,?_⟩
           . intro b o e;have e1:=sm b o e;obtain ⟨e2,e3⟩:=zG.mp e1;refine zG.mpr ⟨e2,?_⟩;simp only [List.mem_cons,List.not_mem_nil,or_false,not_or] at e2;rw [zF e2.2];exact s2 _ _ e3
           . rw [zF htb];exact s2 _ _ h1
           . rw [zB,List.map_append];rfl
           . simp
           . rw [List.length_append,List.length_singleton];omega
           . simp;exact ⟨h5,fun z=>npt z.symm⟩
           . simp;exact ⟨h6,fun z=>npb z.symm⟩
           . intro j r hj;by_cases c2:j < gs.length
             . rw [List.getElem?_append_left c2] at hj;have rb:r≠bg:=fun z=>h6 (z ▸ List.mem_of_getElem? hj);rw [zF rb];exact s2 _ _ (h7 _ _ hj)
             . rw [List.getElem?_append_right (by omega)] at hj;have:j - gs.length=0:=by
                 have:=(List.getElem?_eq_some_iff.mp hj).1;simp at this;exact this
               rw [this] at hj;simp at hj;subst hj;rw [zF npb];have ej:j=gi.length+1:=by
                 have:gs.length=gi.length+1:=by rw [egs];simp
                 omega
               rw [ej];exact hp
           . refine h8.mono fun b o e=>?_;obtain ⟨e1,e2⟩:=zG.mp e;have nbp:b≠p:=zI e2 np;simp only [List.mem_cons,not_or] at e1;refine zG.mpr ⟨by simp [e1,nbp],?_⟩;rw [zF e1.2.1];exact s2 _ _ e2
   . rw [if_neg (by simp;omega)];obtain ⟨r,hr1⟩ : ∃ r,gs[g]? = some r:=⟨gs[g]'(by omega),List.getElem?_eq_getElem (by omega)⟩;have rm:=List.mem_of_getElem? hr1;refine ⟨_,_,_,h1,T.jR,T.zi,_,rfl,bg,rfl,_,SqL.of h2,.ref r,Zw (by rw [List.getElem?_map,hr1];rfl),?_⟩;refine q r H' sm ⟨dx,bl,gs,h1,h2,h3,h4,h5,h6,h7,h8⟩ (zG.mpr ⟨?_,h7 _ _ hr1⟩);simp only [List.mem_cons,List.not_mem_nil,or_false,not_or];exact ⟨fun z=>h5 (z ▸ rm),fun z=>h6 (z ▸ rm)⟩
end
abbrev wFs (m:Int)(fr d:Addr)(tv:V):List (Str×V):=[("turns",.int m),("first_row",.ref fr),("rules",.ref d),("tallies",tv)]
structure WAt (A:Ad)(H:Hp)(x:Addr)(m:Int)(row:List Int)(rl:RL)(l:List Addr):Prop where
 mk ::
 at_:∃ dx fr d tv,H x=some (.ins A.qB dx (wFs m fr d tv))/\hide H l fr=some (.lst (row.map V.int))/\jX (hide H l) d rl/\((tv=.non/\l=[x])\/∃ t bg,tv=.ref t/\l=[x,t,bg]/\t≠x/\zGE A.zy H t bg rl row)
theorem WAt.own {A:Ad}{H:Hp}{x:Addr}{m:Int}{row:List Int}{rl:RL}{l:List Addr}(h:WAt A H x m row rl l):x∈l:=by
 obtain ⟨_,_,_,_,_,_,_,h | ⟨_,_,_,h,_⟩⟩:=h.at_
 . rw [h.2];exact List.mem_singleton.mpr rfl
 . rw [h];exact List.mem_cons_self
theorem zC4 (f:Str)(v:V):∀ fs:List (Str×V),(zH2 f v fs).length<=fs.length+1
 | []=>by simp [zH2]
 | x :: fs=>by
   have:=zC4 f v fs;unfold zH2;split
   . simp
   . simp only [List.length_cons];omega
theorem zUR {H:Hp}{c:Int}{kvs:List (Key×V)}{rl:RL}(h:Paired (fun (kv:Key×V)(x:Int×List Int)=>kv.1=Sum.inl x.1/\∃ r,kv.2=.ref r/\H r=some (.lst (x.2.map V.int))) kvs rl):(kvs.any fun kv=>decide (kv.1=Sum.inl c))=rl.any fun x=>decide (x.1=c):=by
 induction h with
 | nil=>rfl
 | cons r t ih =>rw [List.any_cons,List.any_cons,ih,r.1];congr 1;exact decide_eq_decide.mpr ⟨fun z=>Sum.inl.inj z,fun z=>by rw [z]⟩
theorem zS4 {H:Hp}{c:Int}{r:Addr}{row:List Int}(hr:H r=some (.lst (row.map V.int))){kvs:List (Key×V)}{rl:RL}(h:Paired (fun (kv:Key×V)(x:Int×List Int)=>kv.1=Sum.inl x.1/\∃ r,kv.2=.ref r/\H r=some (.lst (x.2.map V.int))) kvs rl) : Paired (fun (kv:Key×V)(x:Int×List Int)=>kv.1=Sum.inl x.1/\∃ r,kv.2=.ref r/\H r=some (.lst (x.2.map V.int))) (putK kvs (Sum.inl c) (.ref r)) (zQX rl c row):=by
 unfold putK zQX;rw [zUR h];split
 . rename_i hany;clear hany
   induction h with
   | nil=>exact .nil
   | cons g t ih =>
     rw [List.map_cons,List.map_cons];refine .cons ?_ ih;rename_i a b _ _;by_cases e:b.1=c
     . rw [if_pos (by rw [g.1,e]),if_pos e];exact ⟨g.1,r,rfl,hr⟩
     . rw [if_neg (fun z=>e (Sum.inl.inj (g.1.symm.trans z))),if_neg e];exact g
 . exact zC3 h ⟨rfl,r,rfl,hr⟩
section
inductive zS5 (C:Addr)(vs:List V)(H:Hp)(Q:VK)(E:XK):Prop | m (x dx fr d:Addr)(m:Int)(fs:List (Str×V))(_:vs=[.ref x,.int m,.ref fr,.ref d])(_:H x=some (.ins C dx fs))(_:(fs=[]\/∃ m' fr' d' tv',fs=wFs m' fr' d' tv'))(_:Q .non (upd H x (.ins C dx (wFs m fr d .non))))
theorem jt (T:Txt K mg A):qM P w K mg base CX0 1 A.ZZ A.JV ["self","turns","first_row","rules"] (zS5 A.qB):=by
 refine T.qb.okc zIg fun vs H Q E h=>?_
 . obtain ⟨x,dx,fr,d,m,fs,rfl,hx,hf,q⟩:=h;refine ⟨rfl,fun _ _ _ s hr=>⟨_,(zC (jT (pv 0) (pv 1) rfl) (zC (jT (pv 0) (pv 2) rfl) (zC (jT (pv 0) (pv 3) rfl) (zE (jT (pv 0) zWt rfl))))),?_⟩⟩;show Zv _ _ _ [some (.ref x),some (.int m),some (.ref fr),some (.ref d)] H;walk_at "dd";rcases hf with rfl | ⟨m',fr',d',tv',rfl⟩
   all_goals
     refine ⟨_,_,_,hx,T.zW,T.zx,?_,_,_,_,zB,T.zW,T.qG,?_,_,_,_,zB,T.zW,T.jE,?_,_,_,_,zB,T.zW,T.qt,?_,?_⟩
     . show _ < 1000;simp
     . exact Nat.lt_of_le_of_lt (zC4 _ _ _) (by simp)
     . exact Nat.lt_of_le_of_lt (zC4 _ _ _) (Nat.lt_of_le_of_lt (Nat.succ_le_succ (zC4 _ _ _)) (by simp))
     . exact Nat.lt_of_le_of_lt (zC4 _ _ _) (Nat.lt_of_le_of_lt (Nat.succ_le_succ (zC4 _ _ _)) (Nat.lt_of_le_of_lt (Nat.succ_le_succ (Nat.succ_le_succ (zC4 _ _ _))) (by simp)))
     . rw [z5,z5,z5];exact q
inductive zLm (A:Ad)(vs:List V)(H:Hp)(Q:VK)(E:XK):Prop | m (x dx:Addr)(_:vs=[.ref x])(_:H x=some (.ins A.qB dx []))(_:∀ H',zz (hide H [x]) (hide H' [x])->WAt A H' x 4 [] [] [x]->Q .non H')
theorem zLn (T:Txt K mg A):qM P w K mg base CX0 2 A.Jp A.zBa ["self"] (zLm A):=by
 refine T.zBd.okc zLa fun vs H Q E h=>?_
 . obtain ⟨x,dx,rfl,hx,q⟩:=h;refine ⟨rfl,fun _ _ _ s hr=>⟨_,(zE (z7 (mA (pv 0) T.zW T.jH (jt T) hr (bd4 T.qb) (zA zM (zA (qY zD) (zA zEn zD)))))),?_⟩⟩;show zP2 _ _ [some (.ref x)] H;walk_at "dd";refine ⟨_,_,hx,rfl,Nat.zero_le _,fun fr nfr d nd=>?_⟩;have nxf:x≠fr:=zI hx nfr;have nd2:H d=none:=(zK nfr).free nd;have nxd:x≠d:=zI hx nd2;have nfd:fr≠d:=zI zB nd;refine ⟨x,dx,fr,d,4,[],rfl,by rw [zF nxd,zF nxf];exact hx,.inl rfl,?_⟩;refine q _ ?_ ⟨dx,fr,d,.non,zB,zG.mpr ⟨by simp;exact fun z=>nxf z.symm,?_⟩,⟨[],zG.mpr ⟨by simp;exact fun z=>nxd z.symm,?_⟩,.nil⟩,.inl ⟨rfl,rfl⟩⟩
   . intro b o e;obtain ⟨e1,e2⟩:=zG.mp e;refine zG.mpr ⟨e1,?_⟩;rw [zF (by simpa using e1),zF (zI e2 nd2),zF (zI e2 nfr)];exact e2
   . rw [zF (fun z=>nxf z.symm),zF nfd,zB];rfl
   . rw [zF (fun z=>nxd z.symm),zB]
inductive zQv (A:Ad)(vs:List V)(H:Hp)(Q:VK)(E:XK):Prop | m (x a:Addr)(m:Int)(row zGf:List Int)(rl:RL)(l:List Addr)(_:vs=[.ref x,.ref a])(_:WAt A H x m row rl l)(_:hide H l a=some (.lst (zGf.map V.int)))(_:∀ H',zz (hide H l) (hide H' [x])->WAt A H' x m zGf rl [x]->Q .non H')
theorem zC5 {H:Hp}{l:List Addr}{x:Addr}{o:HO}(h:x∈l):zz (hide H l) (hide (upd H x o) [x]):=fun b u e=>by obtain ⟨e1,e2⟩:=zG.mp e;have ne:b≠x:=fun z=>e1 (z ▸ h);exact zG.mpr ⟨by simpa using ne,by rw [zF ne];exact e2⟩
theorem zHe (T:Txt K mg A):qM P w K mg base CX0 2 A.jx A.Qb ["self","row"] (zQv A):=by
 refine T.Qt.okc zHb fun vs H Q E h=>?_
 . obtain ⟨x,a,m,row,zGf,rl,l,rfl,hw,ha,q⟩:=h;refine ⟨rfl,fun _ _ _ s hr=>⟨_,(zE (z7 (mA (pv 0) T.zW T.jH (jt T) hr (bd4 T.qb) (zA (zU (pv 0) rfl) (zA (pv 1) (zA (zU (pv 0) rfl) zD)))))),?_⟩⟩;show zP2 _ _ [some (.ref x),some (.ref a)] H;obtain ⟨dx,fr,d,tv,h1,h2,h3,h4⟩:=hw.at_;walk_at "dd";refine ⟨_,_,h1,rfl,_,_,_,h1,T.zW,T.zx,_,rfl,_,_,_,h1,T.zW,T.jE,_,rfl,x,dx,a,d,m,_,rfl,h1,.inr ⟨_,_,_,_,rfl⟩,?_⟩;have sm:=zC5 (o:=.ins A.qB dx (wFs m a d .non)) (H:=H) hw.own;exact q _ sm ⟨dx,a,d,.non,zB,sm _ _ ha,h3.mono sm,.inl ⟨rfl,rfl⟩⟩
inductive zOL (A:Ad)(vs:List V)(H:Hp)(Q:VK)(E:XK):Prop | m (x a:Addr)(c m:Int)(row zGf:List Int)(rl:RL)(l:List Addr)(_:vs=[.ref x,.int c,.ref a])(_:WAt A H x m row rl l)(_:rl.length < 64)(_:hide H l a=some (.lst (zGf.map V.int)))(_:∀ H',zz (hide H l) (hide H' [x])->WAt A H' x m row (zQX rl c zGf) [x]->Q .non H')
theorem zG5 (T:Txt K mg A):qM P w K mg base CX0 2 A.je A.Zn ["self","letter","row"] (zOL A):=by
 refine T.Zr.okc zCK fun vs H Q E h=>?_
 . obtain ⟨x,a,c,m,row,zGf,rl,l,rfl,hw,hl,ha,q⟩:=h;refine ⟨rfl,fun _ _ _ s hr=>⟨_,(zC (sA 3 zCK.nd (zDm zQO (by rfl) T.zTO (by decide +kernel) (zA (zU (pv 0) rfl) zD))) (zC (zGl (zAF hr) (pv 3) (pv 1) (pv 2) rfl) (zE (z7 (mA (pv 0) T.zW T.jH (jt T) hr (bd4 T.qb) (zA (zU (pv 0) rfl) (zA (zU (pv 0) rfl) (zA (pv 3) zD)))))))),?_⟩⟩;show Zv _ _ _ [some (.ref x),some (.int c),some (.ref a),none] H;obtain ⟨dx,fr,d,tv,h1,h2,h3,h4⟩:=hw.at_;walk_at "dd";obtain ⟨kvs,hk,hp⟩:=id h3;have hk2:=(zG.mp hk).2;refine ⟨_,_,_,h1,T.zW,T.jE,_,rfl,d,rfl,kvs,hk2,fun p np=>?_⟩;have nxp:x≠p:=zI h1 np;have kl:kvs.length < sizeLine:=by
     have:=Paired.length hp;have:=sizeLine_eq;omega
   refine ⟨_,zTj.k (k:=Sum.inl c) zB kl,?_⟩;rw [z5];have h1p:(upd H p (.dK (putK kvs (Sum.inl c) (.ref a)))) x=some (.ins A.qB dx (wFs m fr d tv)):=by rw [zF nxp];exact h1
   refine ⟨_,_,h1p,rfl,_,_,_,h1p,T.zW,T.zx,_,rfl,_,_,_,h1p,T.zW,T.qG,_,rfl,x,dx,fr,p,m,_,rfl,h1p,.inr ⟨_,_,_,_,rfl⟩,?_⟩;have sm:=zC5 (o:=.ins A.qB dx (wFs m fr p .non)) (H:=upd H p (.dK (putK kvs (Sum.inl c) (.ref a)))) (l:=l) hw.own;have sm2:=(zZ (l:=l) (zK (o:=.dK (putK kvs (Sum.inl c) (.ref a))) np)).trans sm;refine q _ sm2 ⟨dx,fr,p,.non,zB,sm2 _ _ h2,⟨putK kvs (Sum.inl c) (.ref a),zG.mpr ⟨by simp;exact fun z=>nxp z.symm,by rw [zF (fun z=>nxp z.symm),zB]⟩,zS4 (sm2 _ _ ha) (Paired.zFH hp fun kv x h=>⟨h.1,let ⟨r,e1,e2⟩:=h.2;⟨r,e1,sm2 _ _ e2⟩⟩)⟩,.inl ⟨rfl,rfl⟩⟩
end
section
theorem zGE.keep {C t bg x:Addr}{H H' : Hp}{rl:RL}{row:List Int}{CW dx:Addr}{fs:List (Str×V)}(h:zGE C H t bg rl row)(hx:H x=some (.ins CW dx fs))(ne:t≠x)(sm:zz (hide H [x]) H'):zGE C H' t bg rl row:=by
 obtain ⟨dt,bl,gs,h1,h2,h3,h4,h5,h6,h7,h8⟩:=h.at_;have k:∀ b o,H b=some o->b≠x->H' b=some o:=fun b o e n=>sm _ _ (zG.mpr ⟨by simpa using n,e⟩);have kd:∀ b kvs,H b=some (.dK kvs)->H' b=some (.dK kvs):=fun b kvs e=>k _ _ e fun z=>by rw [z,hx] at e;cases e
 refine ⟨dt,bl,gs,k _ _ h1 ne,k _ _ h2 (fun z=>by rw [z,hx] at h2;cases h2),h3,h4,h5,h6,fun j r hj=>kd _ _ (h7 j r hj),?_⟩;obtain ⟨kvs,hb,hp⟩:=h8;obtain ⟨b1,b2⟩:=zG.mp hb;refine ⟨kvs,zG.mpr ⟨b1,kd _ _ b2⟩,Paired.zFH hp fun kv z h=>?_⟩;obtain ⟨e1,r,e2,e3⟩:=h;obtain ⟨r1,r2⟩:=zG.mp e3;exact ⟨e1,r,e2,zG.mpr ⟨r1,kd _ _ r2⟩⟩
inductive zOM (A:Ad)(vs:List V)(H:Hp)(Q:VK)(E:XK):Prop | m (x:Addr)(m:Int)(g:Nat)(row:List Int)(rl:RL)(l:List Addr)(_:vs=[.ref x,.int g])(_:WAt A H x m row rl l)(_:Dat rl row)(_:g<=64)(_:∀ r H' l',zz (hide H l) (hide H' l')->WAt A H' x m row rl l'->hide H' l' r=some (.dK (tkv (zCH rl row g)))->Q (.ref r) H')
theorem zCM (T:Txt K mg A):qM P w K mg base CX0 4 A.jf A.Zo ["self","g"] (zOM A):=by
 refine T.jh.okc zG1 fun vs H Q E h=>?_
 . obtain ⟨x,m,g,row,rl,l,rfl,hw,D,hg,q⟩:=h;refine ⟨rfl,fun _ _ _ s hr=>⟨_,(zC (z6 (zOm (zWu (zU (pv 0) rfl))) (zE (jT (pv 0) (zBi T.zJQ (zIo T) (hr.mono (by decide)) rfl T.zJP (bd3 T.JX) .nil zBj (zA (zU (pv 0) rfl) (zA (zU (pv 0) rfl) zD))) rfl)) zR) (zE (zN (mA (zU (pv 0) rfl) T.jR T.zBG (zHd T) hr (bd2 T.Qr) (zA (pv 1) zD))))),?_⟩⟩;show Zv _ _ _ [some (.ref x),some (.int g)] H;obtain ⟨dx,fr,d,tv,h1,h2,h3,h4⟩:=hw.at_;have key:∀ (H1:Hp)(t bg:Addr),zz (hide H l) (hide H1 [x,t,bg])->H1 x=some (.ins A.qB dx (wFs m fr d (.ref t)))->t≠x->zGE A.zy H1 t bg rl row->
       zDe A.zy [.ref t,.int g] H1 Q E0:=by
     intro H1 t bg sm e1 ne tl;obtain ⟨dt,bl,gs,i1,i2,_⟩:=tl.at_;have nbx:bg≠x:=fun z=>by rw [z,e1] at i2;cases i2
     refine ⟨t,bg,g,row,rl,rfl,tl,D,hg,fun r H2 s2 tl2 hr2=>?_⟩;have hx2:H2 x=some (.ins A.qB dx (wFs m fr d (.ref t))):=(zG.mp (s2 _ _ (zG.mpr ⟨by simp;exact ⟨fun z=>ne z.symm,fun z=>nbx z.symm⟩,e1⟩))).2;have s3:zz (hide H l) (hide H2 [x,t,bg]):=fun b o e=>by obtain ⟨u1,u2⟩:=zG.mp (sm _ _ e);simp only [List.mem_cons,List.not_mem_nil,or_false,not_or] at u1;obtain ⟨v1,v2⟩:=zG.mp (s2 b o (zG.mpr ⟨by simp [u1],u2⟩));exact zG.mpr ⟨by simp [u1],v2⟩
     refine q r H2 [x,t,bg] s3 ⟨dx,fr,d,.ref t,hx2,s3 _ _ h2,h3.mono s3,.inr ⟨t,bg,rfl,rfl,ne,tl2⟩⟩ ?_;obtain ⟨v1,v2⟩:=zG.mp hr2;simp only [List.mem_cons,List.not_mem_nil,or_false,not_or] at v1;refine zG.mpr ⟨?_,v2⟩;simp only [List.mem_cons,List.not_mem_nil,or_false,not_or];exact ⟨(fun z=>by rw [z,hx2] at v2;cases v2),v1.1,v1.2⟩
   walk_at "dd";refine ⟨_,_,_,h1,T.zW,T.qt,tv,rfl,?_⟩;rcases h4 with ⟨rfl,rfl⟩ | ⟨t,bg,rfl,rfl,ne,tl⟩
   . rw [if_pos (decide_eq_true rfl)];refine ⟨_,_,_,h1,T.zW,T.qG,_,rfl,_,_,_,h1,T.zW,T.jE,_,rfl,fun t dt nt ndt ntd=>?_⟩;have sN:zz H (upd (upd H dt (.own t)) t (.ins A.zy dt [])):=fun b o e=>by
       rw [zF (zI e nt),zF (zI e ndt)];exact e
     have tx:t≠x:=fun z=>by rw [z,h1] at nt;cases nt
     refine ⟨t,fr,d,dt,row,rl,rfl,zB,sN _ _ (zG.mp h2).2,(h3.mono (zEG _ _)).mono sN,D.zYL,D.rlL,D.few,D.nd,fun bg H2 s2 nbg tl=>⟨rfl,?_⟩⟩;have s3:zz H (hide H2 [t,bg]):=fun b o e=>s2 b o (zG.mpr ⟨by simpa using zI e nt,sN _ _ e⟩);have nbx:bg≠x:=fun z=>by rw [z,sN _ _ h1] at nbg;cases nbg
     have hx2:H2 x=some (.ins A.qB dx (wFs m fr d .non)):=(zG.mp (s3 _ _ h1)).2;refine ⟨_,_,_,hx2,T.zW,T.qt,by show 4 < 1000;omega,_,_,_,zB,T.zW,T.qt,_,rfl,t,rfl,?_⟩;refine hid fun Z_ z_=>?_;obtain ⟨dt',bl,gs,i1,i2,i3⟩:=tl.at_;refine z_ ?_;clear z_;have tl2:zGE A.zy (upd H2 x (.ins A.qB dx (zH2 "tallies" (.ref t) (wFs m fr d .non)))) t bg rl row:=tl.keep hx2 tx (zPo (by simp));refine ⟨_,_,by rw [zF tx];exact i1,rfl,?_⟩;refine key _ t bg (fun b o e=>?_) zB tx tl2;refine hid fun Z_ z_=>?_;obtain ⟨e1,e2⟩:=zG.mp e;simp only [List.mem_cons,List.not_mem_nil,or_false] at e1;obtain ⟨u1,u2⟩:=zG.mp (s3 _ _ e2);refine z_ ?_;clear z_;simp only [List.mem_cons,List.not_mem_nil,or_false,not_or] at u1;refine zG.mpr ⟨by simp [e1,u1],?_⟩;rw [zF e1];exact u2
   . rw [if_neg (by simp)];refine hid fun Z_ z_=>?_;obtain ⟨dt',bl,gs,i1,i2,i3⟩:=tl.at_;refine z_ ?_;clear z_;exact ⟨_,_,_,h1,T.zW,T.qt,_,rfl,t,rfl,_,_,i1,rfl,key H t bg (fun _ _ e=>e) h1 ne tl⟩
theorem zPq:∀ t:List (Int×Int),zWn (tkv t)=total t
 | []=>rfl
 | x :: t=>by have:=zPq t;rw [zEq,<- this];rfl
inductive zNN (A:Ad)(vs:List V)(H:Hp)(Q:VK)(E:XK):Prop | m (x:Addr)(m:Int)(g:Nat)(row:List Int)(rl:RL)(l:List Addr)(_:vs=[.ref x,.int g])(_:WAt A H x m row rl l)(_:Dat rl row)(_:g<=64)(_:∀ H' l',zz (hide H l) (hide H' l')->WAt A H' x m row rl l'->Q (.int (zg rl row g).length) H')
theorem QI (T:Txt K mg A):qM P w K mg base CX0 5 A.jL A.ZE ["self","g"] (zNN A):=by
 refine T.qc.okc zGC fun vs H Q E h=>?_
 . obtain ⟨x,m,g,row,rl,l,rfl,hw,D,hg,q⟩:=h;refine ⟨rfl,fun _ _ _ s hr=>⟨_,(zE (zN (zVs rfl rfl T.zWg (mA (pv 0) T.zW T.Zs (zCM T) hr (bd2 T.jh) (zA (pv 1) zD))))),?_⟩⟩;show zHD _ _ [some (.ref x),some (.int g)] H;obtain ⟨dx,fr,d,tv,h1,h2,h3,h4⟩:=hw.at_;walk_at "dd";simp only [zXc,zVq];walk_at "dd";refine ⟨_,_,h1,rfl,x,m,g,row,rl,l,rfl,hw,D,hg,fun r H' l' sm hw' hr'=>?_⟩;refine hid fun Z_ z_=>?_;have hq:=q H' l' sm hw';rw [<- (zFW rl row g).2.2,<- zPq] at hq;obtain ⟨d',kvs',e1,e2,e3⟩:=zR3 (Q:=Q) (zG.mp hr').2 (fun p hp=>by
     unfold tkv at hp;obtain ⟨y,_,rfl⟩:=List.mem_map.mp hp;exact ⟨_,rfl⟩) hq
   refine z_ ?_;clear z_;exact ⟨d',e1,kvs',e2,e3⟩
inductive zON (A:Ad)(vs:List V)(H:Hp)(Q:VK)(E:XK):Prop | m (x:Addr)(m:Int)(g:Nat)(row:List Int)(rl:RL)(l:List Addr)(_:vs=[.ref x,.int g])(_:WAt A H x m row rl l)(_:g<=64)(_:(∀ j,j<=g->(zg rl row j).length < sizeLine))(_:∀ r H',zz H H'->H' r=some (.lst ((zg rl row g).map V.int))->Q (.ref r) H')
theorem zw (T:Txt K mg A):qM P w K mg base CX0 3 A.jg A.Zp ["self","g"] (zON A):=by
 refine T.zf.okc zG2 fun vs H Q E h=>?_
 . obtain ⟨x,m,g,row,rl,l,rfl,hw,hg,hz,q⟩:=h;refine ⟨rfl,fun _ _ _ s hr=>⟨_,(zE (zN (cA (zJq T) hr T.zDV T.Qs (bd3 T.Qs) (zA (zU (pv 0) rfl) (zA (zU (pv 0) rfl) (zA (pv 1) zD)))))),?_⟩⟩;show zHD _ _ [some (.ref x),some (.int g)] H;obtain ⟨dx,fr,d,tv,h1,h2,h3,h4⟩:=hw.at_;walk_at "dd";exact ⟨_,_,_,h1,T.zW,T.qG,_,rfl,_,_,_,h1,T.zW,T.jE,_,rfl,fr,d,row,rl,g,rfl,(zG.mp h2).2,h3.mono (zEG _ _),hg,hz,fun p H' sm hp=>q p H' sm hp⟩
end
theorem zCC.mark {k:Nat}{A:Around}{v:Option Value}(r:zCC k A):zCC k (A.mark v):=⟨r.dp,r.un⟩
abbrev aFs (n:Int)(pl pt:Addr):List (Str×V):=[("number",.int n),("listed",.ref pl),("text",.ref pt)]
def zG6 (A:Ad)(H:Hp)(r:Addr)(n:Int)(li tx:List Int):Prop:=∃ dx pl pt,H r=some (.ins A.qJ dx (aFs n pl pt))/\H pl=some (.lst (li.map V.int))/\H pt=some (.lst (tx.map V.int))
theorem zG6.mono {A:Ad}{H H' : Hp}{r:Addr}{n:Int}{li tx:List Int}(h:zG6 A H r n li tx)(s:zz H H'):zG6 A H' r n li tx:=by obtain ⟨dx,pl,pt,h1,h2,h3⟩:=h;exact ⟨dx,pl,pt,s _ _ h1,s _ _ h2,s _ _ h3⟩
def zDh (n:Int)(li tx:List Int):List Int:=if li=[]/\tx=[] then [n] else n :: (li.length:Int) :: (li ++ ((tx.length:Int) :: tx))
section
inductive ji (C:Addr)(vs:List V)(H:Hp)(Q:VK)(E:XK):Prop | m (x dx pl pt:Addr)(n:Int)(_:vs=[.ref x,.int n,.ref pl,.ref pt])(_:H x=some (.ins C dx []))(_:Q .non (upd H x (.ins C dx (aFs n pl pt))))
theorem zEH (T:Txt K mg A):zNs P w K mg base CX0 1 A.ZD A.QM ["self","number","listed","text"] (ji A.qJ):=by
 refine okH T.ZF zJf (fun vs H Q E h=>?_) (fun _ _ _ s H vs Q E hr h=>?_)
 . obtain ⟨x,dx,pl,pt,n,rfl,_⟩:=h;rfl
 . obtain ⟨x,dx,pl,pt,n,rfl,hx,q⟩:=h;refine ⟨_,(zC (jT (pv 0) (pv 1) rfl) (zC (jT (pv 0) (pv 2) rfl) (zE (jT (pv 0) (pv 3) rfl)))),?_⟩;show Zv _ _ _ [some (.ref x),some (.int n),some (.ref pl),some (.ref pt)] H;walk_at "dd";refine ⟨_,_,_,hx,T.qR,T.jP,by show 0 < 1000;omega,_,_,_,zB,T.qR,T.qP,by show 1 < 1000;omega,_,_,_,zB,T.qR,T.qX,by show 2 < 1000;omega,?_⟩;rw [z5,z5];exact q
theorem zFM (T:Txt K mg A):qM P w K mg base CX0 1 A.ZD A.QM ["self","number","listed","text"] (ji A.qJ):=(zEH T).fn
inductive zWG (A:Ad)(vs:List V)(H:Hp)(Q:VK)(E:XK):Prop | m (x:Addr)(n:Int)(li tx:List Int)(_:vs=[.ref x])(_:zG6 A H x n li tx)(_:li.length+tx.length+3 < sizeLine)(_:∀ p H',zz H H'->H p=none->H' p=some (.lst ((zDh n li tx).map V.int))->Q (.ref p) H')
theorem zJr (T:Txt K mg A):qM P w K mg base CX0 1 A.QN A.zAG ["self"] (zWG A):=by
 refine T.zAX.okc zJg fun vs H Q E h=>?_
 . obtain ⟨x,n,li,tx,rfl,⟨dx,pl,pt,h1,h2,h3⟩,hz,q⟩:=h;refine ⟨rfl,fun _ _ _ s hr=>⟨_,(zC (z6 (L2.PW.pt (zJ7 (zDa (qQ (zU (pv 0) rfl) (fun _=>rfl))) (zH0 (zDa (qQ (zU (pv 0) rfl) (fun _=>rfl)))))) (zE (zN (qY (zA (zU (pv 0) rfl) zD)))) zR) (zE (zN (z9 zFw (z9 zFw (z9 zFw (qY (zA (zU (pv 0) rfl) (zA (zd zQ (by rfl) T.QB PySem.boot_len (zA (zU (pv 0) rfl) zD)) zD))) (zU (pv 0) rfl)) (qY (zA (zd zQ (by rfl) T.QB PySem.boot_len (zA (zU (pv 0) rfl) zD)) zD))) (zU (pv 0) rfl))))),?_⟩⟩;show Zv _ _ _ [some (.ref x)] H;walk_at "dd";refine ⟨_,_,_,h1,T.qR,T.qP,_,rfl,!(li.map V.int).isEmpty,.inl ⟨_,SqL.of h2,rfl⟩,?_⟩;by_cases c1:li=[]/\tx=[]
   . obtain ⟨rfl,rfl⟩:=c1;rw [if_pos (by simp)];refine ⟨_,_,_,h1,T.qR,T.qX,_,rfl,!(([]:List Int).map V.int).isEmpty,.inl ⟨_,SqL.of h3,rfl⟩,?_⟩;rw [if_pos (by simp)];exact ⟨_,_,_,h1,T.qR,T.jP,_,rfl,by show 1<=sizeLine;omega,fun p np=>q p _ (zK np) np (by rw [zB];rfl)⟩
   . have e:zDh n li tx=n :: (li.length:Int) :: (li ++ ((tx.length:Int) :: tx)):=if_neg c1;rw [e] at q;by_cases c2:li=[]
     . rw [if_pos (by simp [c2])];refine ⟨_,_,_,h1,T.qR,T.qX,_,rfl,!(tx.map V.int).isEmpty,.inl ⟨_,SqL.of h3,rfl⟩,?_⟩;rw [if_neg (by simp;exact fun z=>c1 ⟨c2,z⟩)];refine ⟨_,_,_,h1,T.qR,T.jP,_,rfl,_,_,_,h1,T.qR,T.qP,_,rfl,pl,rfl,_,.inl (SqL.of h2),by show 2<=sizeLine;omega,fun p1 np1=>?_⟩;rw [List.length_map];have s1:=zK (o:=.lst [.int n,.int li.length]) np1;refine ⟨_,_,_,s1 _ _ h1,T.qR,T.qP,_,rfl,p1,pl,_,_,rfl,rfl,zB,s1 _ _ h2,by rw [List.length_map];show 2+_<=_;omega,fun p2 np2=>?_⟩;have s2:=s1.trans (zK (o:=.lst ([.int n,.int li.length] ++ li.map V.int)) np2);refine ⟨_,_,_,s2 _ _ h1,T.qR,T.qX,_,rfl,pt,rfl,_,.inl (SqL.of (s2 _ _ h3)),by show 1<=sizeLine;omega,fun p3 np3=>?_⟩;rw [List.length_map];have s3:=s2.trans (zK (o:=.lst [.int tx.length]) np3);have n23:p2≠p3:=zI zB np3;refine ⟨p2,p3,_,_,rfl,rfl,by rw [zF n23];exact zB,zB,by rw [List.length_append,List.length_map];show 2+_+1<=_;omega,fun p4 np4=>?_⟩;have s4:=s3.trans (zK (o:=.lst ([.int n,.int li.length] ++ li.map V.int ++ [.int tx.length])) np4);refine ⟨_,_,_,s4 _ _ h1,T.qR,T.qX,_,rfl,p4,pt,_,_,rfl,rfl,zB,s4 _ _ h3,by rw [List.length_append,List.length_append,List.length_map,List.length_map];show 2+_+1+_<=_;omega,fun p5 np5=>?_⟩;refine q p5 _ (s4.trans (zK np5)) (s4.free np5) ?_;rw [zB];simp
     . rw [if_neg (by simp [c2])];refine ⟨_,_,_,h1,T.qR,T.jP,_,rfl,_,_,_,h1,T.qR,T.qP,_,rfl,pl,rfl,_,.inl (SqL.of h2),by show 2<=sizeLine;omega,fun p1 np1=>?_⟩;rw [List.length_map];have s1:=zK (o:=.lst [.int n,.int li.length]) np1;refine ⟨_,_,_,s1 _ _ h1,T.qR,T.qP,_,rfl,p1,pl,_,_,rfl,rfl,zB,s1 _ _ h2,by rw [List.length_map];show 2+_<=_;omega,fun p2 np2=>?_⟩;have s2:=s1.trans (zK (o:=.lst ([.int n,.int li.length] ++ li.map V.int)) np2);refine ⟨_,_,_,s2 _ _ h1,T.qR,T.qX,_,rfl,pt,rfl,_,.inl (SqL.of (s2 _ _ h3)),by show 1<=sizeLine;omega,fun p3 np3=>?_⟩;rw [List.length_map];have s3:=s2.trans (zK (o:=.lst [.int tx.length]) np3);have n23:p2≠p3:=zI zB np3;refine ⟨p2,p3,_,_,rfl,rfl,by rw [zF n23];exact zB,zB,by rw [List.length_append,List.length_map];show 2+_+1<=_;omega,fun p4 np4=>?_⟩;have s4:=s3.trans (zK (o:=.lst ([.int n,.int li.length] ++ li.map V.int ++ [.int tx.length])) np4);refine ⟨_,_,_,s4 _ _ h1,T.qR,T.qX,_,rfl,p4,pt,_,_,rfl,rfl,zB,s4 _ _ h3,by rw [List.length_append,List.length_append,List.length_map,List.length_map];show 2+_+1+_<=_;omega,fun p5 np5=>?_⟩;refine q p5 _ (s4.trans (zK np5)) (s4.free np5) ?_;rw [zB];simp
inductive zJs (C:Addr)(vs:List V)(H:Hp)(Q:VK)(E:XK):Prop | m (x dx a:Addr)(_:vs=[.ref x,.ref a])(_:H x=some (.ins C dx []))(_:Q .non (upd H x (.ins C dx [("numbers",.ref a),("place",.int 0)])))
theorem zJt (T:Txt K mg A):qM P w K mg base CX0 1 A.Qc A.zAR ["self","numbers"] (zJs A.za):=by
 refine T.zAZ.okc zJj fun vs H Q E h=>?_
 . obtain ⟨x,dx,a,rfl,hx,q⟩:=h;refine ⟨rfl,fun _ _ _ s hr=>⟨_,(zC (jT (pv 0) (pv 1) rfl) (zE (jT (pv 0) zM rfl))),?_⟩⟩;show Zv _ _ _ [some (.ref x),some (.ref a)] H;walk_at "dd";refine ⟨_,_,_,hx,T.zj,T.qz,by show 0 < 1000;omega,_,_,_,zB,T.zj,T.qL,by show 1 < 1000;omega,?_⟩;rw [z5];exact q
theorem zAw {H:Hp}{a x C dx:Addr}{xs:List V}{fs:List (Str×V)}{o:HO}(h:SqL K H a xs)(hx:H x=some (.ins C dx fs)):SqL K (upd H x o) a xs:=by
 rcases h with (h | ⟨od,h⟩) | h
 . exact .inl (.inl (by rw [zF (fun z:a=x=>by rw [z,hx] at h;cases h)];exact h))
 . exact .inl (.inr ⟨od,by rw [zF (fun z:a=x=>by rw [z,hx] at h;cases h)];exact h⟩)
 . exact .inr h
abbrev cuO (C dx a:Addr)(i:Nat):HO:=.ins C dx [("numbers",.ref a),("place",.int (i:Nat))]
inductive zS6 (K:Fg)(C:Addr)(vs:List V)(H:Hp)(Q:VK)(E:XK):Prop | m (x dx a:Addr)(i:Nat)(ns:List Int)(_:vs=[.ref x])(_:H x=some (cuO C dx a i))(_:SqL K H a (ns.map V.int))(_:Q (.bl (decide (ns.length<=i))) H)
theorem zHf (T:Txt K mg A):qM P w K mg base CX0 1 A.jy A.Qd ["self"] (zS6 K A.za):=by
 refine T.Qu.okc zHc fun vs H Q E h=>?_
 . obtain ⟨x,dx,a,i,ns,rfl,hx,ha,q⟩:=h;refine ⟨rfl,fun _ _ _ s hr=>⟨_,(zE (zN (zBh zRO (zU (pv 0) rfl) (zd zQ (by rfl) T.QB PySem.boot_len (zA (zU (pv 0) rfl) zD)) (zX _)))),?_⟩⟩;show zHD _ _ [some (.ref x)] H;walk_at "dd";refine ⟨_,_,_,hx,T.zj,T.qL,_,rfl,_,_,_,hx,T.zj,T.qz,_,rfl,a,rfl,_,.inl ha,i,rfl,?_⟩;rw [List.length_map];have e:decide ((ns.length:Int)<=(i:Int))=decide (ns.length<=i):=decide_eq_decide.mpr Int.ofNat_le;rw [e];exact q
inductive zWH (K:Fg)(C:Addr)(vs:List V)(H:Hp)(Q:VK)(E:XK):Prop | m (x dx a:Addr)(i:Nat)(ns:List Int)(v:Int)(_:vs=[.ref x])(_:H x=some (cuO C dx a i))(_:SqL K H a (ns.map V.int))(_:ns[i]? = some v)(_:Q (.int v) (upd H x (cuO C dx a (i+1))))
theorem zu (T:Txt K mg A):qM P w K mg base CX0 1 A.Qe A.zAS ["self"] (zWH K A.za):=by
 refine T.zh.okc zJk fun vs H Q E h=>?_
 . obtain ⟨x,dx,a,i,ns,v,rfl,hx,ha,hv,q⟩:=h;refine ⟨rfl,fun _ _ _ s hr=>⟨_,(zC (zFt (pv 0) zM zOu) (zE (zN (ixL (zU (pv 0) rfl) (z9 zFs (zU (pv 0) rfl) zM))))),?_⟩⟩;show Zv _ _ _ [some (.ref x)] H;walk_at "dd";have e1:((i:Nat):Int)+1=((i+1:Nat):Int):=(by omega);refine ⟨_,_,_,hx,T.zj,T.qL,_,rfl,i,rfl,_,_,hx,by show 2 < 1000;omega,?_⟩;have e2:HO.ins A.za dx (zH2 "place" (.int ((i:Nat)+1:Int)) [("numbers",.ref a),("place",.int (i:Nat))])=cuO A.za dx a (i+1):=by
     rw [e1];rfl
   rw [e2];refine ⟨_,_,_,zB,T.zj,T.qz,_,rfl,_,_,_,zB,T.zj,T.qL,_,rfl,_,rfl,a,rfl,_,zAw ha hx,.int v,?_,q⟩;have e3:(((i+1:Nat):Int) - 1)=((i:Nat):Int):=by omega
   rw [e3];exact Zw (by rw [List.getElem?_map,hv];rfl)
end
section
inductive zNO (K:Fg)(C:Addr)(vs:List V)(H:Hp)(Q:VK)(E:XK):Prop | m (x dx a:Addr)(i k:Nat)(ns:List Int)(_:vs=[.ref x])(_:H x=some (cuO C dx a i))(_:SqL K H a (ns.map V.int))(_:ns[i]? = some (k:Int))(_:i+1+k<=ns.length)(_:∀ p,H p=none->Q (.ref p) (upd (upd H x (cuO C dx a (i+1+k))) p (.lst (((ns.drop (i+1)).take k).map V.int))))
theorem qh (T:Txt K mg A):qM P w K mg base CX0 2 A.jC A.jn ["self"] (zNO K A.za):=by
 refine T.z0.okc zAv fun vs H Q E h=>?_
 . obtain ⟨x,dx,a,i,k,ns,rfl,hx,ha,hk,hl,q⟩:=h;refine ⟨rfl,fun _ _ _ s hr=>⟨_,(zC (sA 1 zAv.nd (mA0 (pv 0) T.zj T.zq (zu T) hr (bd1 T.zh))) (zC (zFt (pv 0) (pv 1) zOu) (zE (zN (zCb zH8 (zU (pv 0) rfl) (zAi (z9 zFs (zU (pv 0) rfl) (pv 1))) (zAi (zU (pv 0) rfl))))))),?_⟩⟩;show Zv _ _ _ [some (.ref x),none] H;walk_at "dd";refine ⟨_,_,hx,rfl,x,dx,a,i,ns,k,rfl,hx,ha,hk,?_⟩;refine ⟨_,_,_,zB,T.zj,T.qL,_,rfl,((i+1:Nat):Int),rfl,(k:Int),rfl,_,_,zB,by show 2 < 1000;omega,?_⟩;have e1:(((i+1:Nat):Int)+(k:Int))=((i+1+k:Nat):Int):=by omega
   have e2:HO.ins A.za dx (zH2 "place" (.int (((i+1:Nat):Int)+(k:Int))) [("numbers",.ref a),("place",.int ((i+1:Nat):Int))])=cuO A.za dx a (i+1+k):=by rw [e1];rfl
   rw [e2,z5];refine ⟨_,_,_,zB,T.zj,T.qz,_,rfl,_,_,_,zB,T.zj,T.qL,_,rfl,_,rfl,(k:Int),rfl,_,_,_,zB,T.zj,T.qL,_,rfl,_,rfl,a,rfl,_,zAw ha hx,fun p np=>?_⟩;have e3:(((i+1+k:Nat):Int) - (k:Int))=((i+1:Nat):Int):=by omega
   rw [e3,zPh (by omega) (by rw [List.length_map];exact hl)];have np2:H p=none:=by
     by_cases z:p=x
     . subst z;rw [zB] at np;cases np
     . rw [zF z] at np;exact np
   have e4:((ns.map V.int).drop (i+1)).take (i+1+k - (i+1))=((ns.drop (i+1)).take k).map V.int:=by rw [List.map_take,List.map_drop];congr 1;omega
   rw [e4];exact q p np2
def zC6 (g:Int)(ok:Bool)(len:Nat):Int:=if g > 64 then -1 else if ok=false then -2 else if len≥18446744073709551616 then -7 else 0
inductive zQw (A:Ad)(vs:List V)(H:Hp)(Q:VK)(E:XK):Prop | m (x:Addr)(m:Int)(g:Nat)(ok:Bool)(row:List Int)(rl:RL)(l:List Addr)(_:vs=[.ref x,.int g,.bl ok])(_:WAt A H x m row rl l)(_:Dat rl row)(_:∀ H' l',zz (hide H l) (hide H' l')->WAt A H' x m row rl l'->Q (.int (zC6 g ok (zg rl row g).length)) H')
theorem jK (T:Txt K mg A):qM P w K mg base CX0 6 A.zES A.zGN ["world","g","rightly_asked"] (zQw A):=by
 refine T.zl.okc zQh fun vs H Q E h=>?_
 . obtain ⟨x,m,g,ok,row,rl,l,rfl,hw,D,q⟩:=h;refine ⟨rfl,fun _ _ _ s hr=>⟨_,(zC (z6 (zS zP6 (pv 1) (zb rfl T.JC) (zX _)) (zE (zN (zFA zAD zM))) zR) (zC (z6 (zDa (qQ (pv 2) (fun _=>rfl))) (zE (zN (zFA zAD zM))) zR) (zC (z6 (zS zRO (mA (pv 0) T.zW T.jO (QI T) hr (bd2 T.qc) (zA (pv 1) zD)) (zb rfl T.jS) (zX _)) (zE (zN (zFA zAD zM))) zR) (zE (zN zM))))),?_⟩⟩;show Zv _ _ _ [some (.ref x),some (.int g),some (.bl ok)] H;obtain ⟨dx,fr,d,tv,h1,h2,h3,h4⟩:=hw.at_;walk_at "dd";have e1:decide ((64:Int) < (g:Int))=decide (64 < g):=decide_eq_decide.mpr (by omega);by_cases c1:64 < g
   . rw [if_pos (by rw [e1];exact decide_eq_true c1)];have:=q H l (fun _ _ e=>e) hw;rw [zC6,if_pos (by omega)] at this;exact this
   . rw [if_neg (by rw [e1];simpa using c1)];refine ⟨ok,rfl,?_⟩;cases ok with
     | false =>have:=q H l (fun _ _ e=>e) hw;rw [zC6,if_neg (by omega),if_pos rfl] at this;exact this
     | true =>
       rw [if_neg (by decide)];refine ⟨_,_,h1,rfl,x,m,g,row,rl,l,rfl,hw,D,by omega,fun H' l' sm hw'=>⟨_,rfl,?_⟩⟩;have:=q H' l' sm hw';rw [zC6,if_neg (by omega),if_neg (by decide)] at this;by_cases c2:(zg rl row g).length≥18446744073709551616
       . rw [if_pos c2] at this;rw [if_pos (decide_eq_true (by omega))];exact this
       . rw [if_neg c2] at this;rw [if_neg (by simp only [decide_eq_true_eq];omega)];exact this
theorem zEI {g:Nat}{ok:Bool}{len:Nat}(h:¬ zC6 g ok len < 0):zC6 g ok len=0/\g<=64/\ok=true/\len < 18446744073709551616:=by
 unfold zC6 at *;split at h
 . exact absurd (by decide) h
 . rename_i h1;rw [if_neg h1];split at h
   . exact absurd (by decide) h
   . rename_i h2;rw [if_neg h2];split at h
     . exact absurd (by decide) h
     . rename_i h3;rw [if_neg h3];exact ⟨rfl,by omega,by simpa using h2,by omega⟩
theorem WAt.mono {H H' : Hp}{x:Addr}{m:Int}{row:List Int}{rl:RL}{l:List Addr}(h:WAt A H x m row rl l)(s:zz H H'):WAt A H' x m row rl l:=by
 obtain ⟨dx,fr,d,tv,h1,h2,h3,h4⟩:=h.at_;refine ⟨dx,fr,d,tv,s _ _ h1,zZ s _ _ h2,h3.mono (zZ s),?_⟩;rcases h4 with h4 | ⟨t,bg,e1,e2,e3,tl⟩
 . exact .inl h4
 . refine .inr ⟨t,bg,e1,e2,e3,?_⟩;obtain ⟨dt,bl,gs,i1,i2,i3,i4,i5,i6,i7,i8⟩:=tl.at_;exact ⟨dt,bl,gs,s _ _ i1,s _ _ i2,i3,i4,i5,i6,fun j r hj=>s _ _ (i7 j r hj),i8.mono (zZ s)⟩
theorem WAt.taken {H:Hp}{x:Addr}{m:Int}{row:List Int}{rl:RL}{l:List Addr}(h:WAt A H x m row rl l):∀ b∈l,∃ o,H b=some o:=by
 obtain ⟨dx,fr,d,tv,h1,h2,h3,h4⟩:=h.at_;rcases h4 with ⟨_,rfl⟩ | ⟨t,bg,_,rfl,_,tl⟩
 . intro b hb;rw [List.mem_singleton.mp hb];exact ⟨_,h1⟩
 . obtain ⟨dt,bl,gs,i1,i2,_⟩:=tl.at_;intro b hb;simp only [List.mem_cons,List.not_mem_nil,or_false] at hb;rcases hb with rfl | rfl | rfl
   . exact ⟨_,h1⟩
   . exact ⟨_,i1⟩
   . exact ⟨_,i2⟩
theorem QJ {H:Hp}{l:List Addr}{p:Addr}{o:HO}(ht:∀ b∈l,∃ o,H b=some o)(np:H p=none):hide (upd H p o) l p=some o:=by refine zG.mpr ⟨fun z=>?_,zB⟩;obtain ⟨o,e⟩:=ht p z;rw [np] at e;cases e
theorem zFh {H:Hp}{l:List Addr}{Q:VK}{n:Int}{pl pt:Addr}{li tx:List Int}(ht:∀ b∈l,∃ o,H b=some o)(h1:hide H l pl=some (.lst (li.map V.int)))(h2:hide H l pt=some (.lst (tx.map V.int)))(q:∀ r H',zz H H'->zG6 A (hide H' l) r n li tx->Q (.ref r) H') : ∀ x dx,H x=none->H dx=none->dx≠x->ji A.qJ [.ref x,.int n,.ref pl,.ref pt] (upd (upd H dx (.own x)) x (.ins A.qJ dx [])) (fun v H2=>v=.non/\Q (.ref x) H2) E0:=by
 intro x dx nx ndx ne;refine ⟨x,dx,pl,pt,n,rfl,zB,rfl,?_⟩;rw [z5];have sm:zz H (upd (upd H dx (.own x)) x (.ins A.qJ dx (aFs n pl pt))):=fun b o e=>by rw [zF (zI e nx),zF (zI e ndx)];exact e
 refine q x _ sm ⟨dx,pl,pt,zG.mpr ⟨fun z=>?_,zB⟩,zZ sm _ _ h1,zZ sm _ _ h2⟩;obtain ⟨o,e⟩:=ht x z;rw [nx] at e;cases e
theorem zZZ {H:Hp}{l:List Addr}{Q:VK}{n:Int}{pt:Addr}{tx:List Int}(li:List Int)(ht:∀ b∈l,∃ o,H b=some o)(h2:hide H l pt=some (.lst (tx.map V.int)))(q:∀ r H',zz H H'->zG6 A (hide H' l) r n li tx->Q (.ref r) H') : ∀ p,H p=none->∀ x dx,(upd H p (.lst (li.map V.int))) x=none->(upd H p (.lst (li.map V.int))) dx=none->dx≠x->ji A.qJ [.ref x,.int n,.ref p,.ref pt] (upd (upd (upd H p (.lst (li.map V.int))) dx (.own x)) x (.ins A.qJ dx [])) (fun v H2=>v=.non/\Q (.ref x) H2) E0:=by intro p np;have s1:=zK (o:=.lst (li.map V.int)) np;exact zFh (fun b hb=>let ⟨o,e⟩:=ht b hb;⟨o,s1 _ _ e⟩) (QJ ht np) (zZ s1 _ _ h2) fun r H' sm ha=>q r H' (s1.trans sm) ha
theorem zZa {H:Hp}{l:List Addr}{Q:VK}{n:Int}(li tx:List Int)(ht:∀ b∈l,∃ o,H b=some o)(hl:(tx.map V.int).length<=sizeLine)(q:∀ r H',zz H H'->zG6 A (hide H' l) r n li tx->Q (.ref r) H') : ∀ p,H p=none->(tx.map V.int).length<=sizeLine/\∀ p1,(upd H p (.lst (li.map V.int))) p1=none->∀ x dx,(upd (upd H p (.lst (li.map V.int))) p1 (.lst (tx.map V.int))) x=none->(upd (upd H p (.lst (li.map V.int))) p1 (.lst (tx.map V.int))) dx=none->dx≠x->ji A.qJ [.ref x,.int n,.ref p,.ref p1] (upd (upd (upd (upd H p (.lst (li.map V.int))) p1 (.lst (tx.map V.int))) dx (.own x)) x (.ins A.qJ dx [])) (fun v H2=>v=.non/\Q (.ref x) H2) E0:=by intro p np;refine ⟨hl,fun p1 np1=>?_⟩;have s1:=zK (o:=.lst (li.map V.int)) np;have ht1:∀ b∈l,∃ o,(upd H p (.lst (li.map V.int))) b=some o:=fun b hb=>let ⟨o,e⟩:=ht b hb;⟨o,s1 _ _ e⟩;have s2:=zK (o:=.lst (tx.map V.int)) np1;exact zFh (fun b hb=>let ⟨o,e⟩:=ht1 b hb;⟨o,s2 _ _ e⟩) (zZ s2 _ _ (QJ ht np)) (QJ ht1 np1) fun r H' sm ha=>q r H' ((s1.trans s2).trans sm) ha
theorem zZb {H:Hp}{l:List Addr}{Q:VK}{n:Int}{pl:Addr}{li:List Int}(ht:∀ b∈l,∃ o,H b=some o)(h1:hide H l pl=some (.lst (li.map V.int)))(q:∀ r H',zz H H'->zG6 A (hide H' l) r n li []->Q (.ref r) H') : ∀ p,H p=none->∀ x dx,(upd H p (.lst [])) x=none->(upd H p (.lst [])) dx=none->dx≠x->ji A.qJ [.ref x,.int n,.ref pl,.ref p] (upd (upd (upd H p (.lst [])) dx (.own x)) x (.ins A.qJ dx [])) (fun v H2=>v=.non/\Q (.ref x) H2) E0:=by intro p np;have s1:=zK (o:=.lst []) np;exact zFh (tx:=[]) (fun b hb=>let ⟨o,e⟩:=ht b hb;⟨o,s1 _ _ e⟩) (zZ s1 _ _ h1) (QJ ht np) fun r H' sm ha=>q r H' (s1.trans sm) ha
inductive zAx (A:Ad)(vs:List V)(H:Hp)(Q:VK)(E:XK):Prop | m (n:Int)(l:List Addr)(_:vs=[.int n])(_:(∀ b∈l,∃ o,H b=some o))(_:∀ r H',zz H H'->zG6 A (hide H' l) r n [] []->Q (.ref r) H')
theorem zO (T:Txt K mg A):qM P w K mg base CX0 3 A.ZM A.JI ["number"] (zAx A):=by
 refine T.zJ.okc zIe fun vs H Q E h=>?_
 . obtain ⟨n,l,rfl,ht,q⟩:=h;refine ⟨rfl,fun _ _ _ s hr=>⟨_,(zE (zN (zBi T.zGe (zFM T) (hr.mono (by decide)) rfl T.zGd (bd4 T.ZF) .nil zBj (zA (pv 0) (zA (qY zD) (zA (qY zD) zD)))))),?_⟩⟩;show zHD _ _ [some (.int n)] H;walk_at "dd";exact ⟨Nat.zero_le _,fun p np=>⟨Nat.zero_le _,(zZa [] [] ht (Nat.zero_le _) q p np).2⟩⟩
inductive zBP (A:Ad)(vs:List V)(H:Hp)(Q:VK)(E:XK):Prop | m (n:Int)(pl:Addr)(li:List Int)(l:List Addr)(_:vs=[.int n,.ref pl])(_:(∀ b∈l,∃ o,H b=some o))(_:hide H l pl=some (.lst (li.map V.int)))(_:∀ r H',zz H H'->zG6 A (hide H' l) r n li []->Q (.ref r) H')
theorem zGF (T:Txt K mg A):zNs P w K mg base CX0 3 A.Q6 A.zAz ["number","listed"] (zBP A):=by
 refine okH T.zV zM6 (fun vs H Q E h=>?_) (fun _ _ _ s H vs Q E hr h=>?_)
 . obtain ⟨n,pl,li,l,rfl,_⟩:=h;rfl
 . obtain ⟨n,pl,li,l,rfl,ht,hp,q⟩:=h;refine ⟨_,(zE (zN (zTs T.zGe (zEH T) (hr.mono (by decide)) rfl T.zGd (bd4 T.ZF) (zA (pv 0) (zA (pv 1) (zA (qY zD) zD)))))),?_⟩;show zHD _ _ [some (.int n),some (.ref pl)] H;walk_at "dd";exact ⟨Nat.zero_le _,zZb ht hp q⟩
theorem qa (T:Txt K mg A):qM P w K mg base CX0 3 A.Q6 A.zAz ["number","listed"] (zBP A):=(zGF T).fn
inductive zHP (A:Ad)(vs:List V)(H:Hp)(Q:VK)(E:XK):Prop | m (pt:Addr)(tx:List Int)(l:List Addr)(_:vs=[.ref pt])(_:(∀ b∈l,∃ o,H b=some o))(_:hide H l pt=some (.lst (tx.map V.int)))(_:∀ r H',zz H H'->zG6 A (hide H' l) r (tx.length:Int) [] tx->Q (.ref r) H')
theorem zHQ (T:Txt K mg A):qM P w K mg base CX0 3 A.zA0 A.zC9 ["text"] (zHP A):=by
 refine T.Z2.okc zM7 fun vs H Q E h=>?_
 . obtain ⟨pt,tx,l,rfl,ht,hp,q⟩:=h;refine ⟨rfl,fun _ _ _ s hr=>⟨_,(zE (zN (zBi T.zGe (zFM T) (hr.mono (by decide)) rfl T.zGd (bd4 T.ZF) .nil zBj (zA (zd zQ (by rfl) T.QB PySem.boot_len (zA (pv 0) zD)) (zA (qY zD) (zA (pv 0) zD)))))),?_⟩⟩;show zHD _ _ [some (.ref pt)] H;walk_at "dd";refine ⟨_,.inl (SqL.of (zG.mp hp).2),Nat.zero_le _,?_⟩;rw [List.length_map];exact zZZ [] ht hp q
def zGG (A:Ad)(H:Hp)(x:Addr)(l:List Addr)(Q:VK)(m:Int)(row:List Int)(rl:RL)(n:Int)(li tx:List Int):Prop :=
 ∀ r H' l',zz (hide H l) (hide H' l')->WAt A H' x m row rl l'->zG6 A (hide H' l') r n li tx->Q (.ref r) H'
section
variable {H H1:Hp}{x:Addr}{l l1:List Addr}{Q:VK}{m:Int}{row:List Int}{rl:RL}{n:Int}{E:XK}
theorem zGG.alone (q:zGG A H x l Q m row rl n [] [])(sm:zz (hide H l) (hide H1 l1))(hw:WAt A H1 x m row rl l1):zAx A [.int n] H1 Q E :=
 ⟨n,l1,rfl,hw.taken,fun r H' s2 ha=>q r H' l1 (sm.trans (zZ s2)) (hw.mono s2) ha⟩
theorem zGG.listed {li:List Int}{p:Addr}(q:zGG A H x l Q m row rl n li [])(sm:zz (hide H l) (hide H1 l1))(hw:WAt A H1 x m row rl l1)(hp:hide H1 l1 p=some (.lst (li.map V.int))):zBP A [.int n,.ref p] H1 Q E :=
 ⟨n,p,li,l1,rfl,hw.taken,hp,fun r H' s2 ha=>q r H' l1 (sm.trans (zZ s2)) (hw.mono s2) ha⟩
theorem zGG.fresh {li:List Int}{p:Addr}(q:zGG A H x l Q m row rl n li [])(sm:zz (hide H l) (hide H1 l1))(hw:WAt A H1 x m row rl l1)(np:H1 p=none):zBP A [.int n,.ref p] (upd H1 p (.lst (li.map V.int))) Q E :=
 q.listed (sm.trans (zZ (zK np))) (hw.mono (zK np)) (QJ hw.taken np)
theorem zGG.zVO {tx:List Int}{p:Addr}(q:zGG A H x l Q m row rl (tx.length:Int) [] tx)(sm:zz (hide H l) (hide H1 l1))(hw:WAt A H1 x m row rl l1)(hp:hide H1 l1 p=some (.lst (tx.map V.int))):zHP A [.ref p] H1 Q E :=
 ⟨p,tx,l1,rfl,hw.taken,hp,fun r H' s2 ha=>q r H' l1 (sm.trans (zZ s2)) (hw.mono s2) ha⟩
end
inductive zHg (A:Ad)(vs:List V)(H:Hp)(Q:VK)(E:XK):Prop | m (x:Addr)(m:Int)(g:Nat)(row:List Int)(rl:RL)(l:List Addr)(_:vs=[.ref x,.int g])(_:WAt A H x m row rl l)(_:Dat rl row)(_:zGG A H x l Q m row rl (zC6 g true (zg rl row g).length) (if zC6 g true (zg rl row g).length < 0 then [] else [((zg rl row g).length:Int)]) [])
theorem zHh (T:Txt K mg A):qM P w K mg base CX0 7 A.ju A.QP ["world","g"] (zHg A):=by
 refine T.jz.okc zDd fun vs H Q E h=>?_
 . obtain ⟨x,m,g,row,rl,l,rfl,hw,D,q⟩:=h;refine ⟨rfl,fun _ _ _ s hr=>⟨_,(zC (sA 2 zDd.nd (cA (jK T) hr T.jM T.zl (bd3 T.zl) (zA (pv 0) (zA (pv 1) (zA zP0 zD))))) (zC (z6 (zS zFB (pv 2) zM (zX _)) (zE (zN (cA (zO T) hr T.zP T.zJ (bd1 T.zJ) (zA (pv 2) zD)))) zR) (zE (zN (cA (qa T) hr T.qD T.zV (bd2 T.zV) (zA zM (zA (qY (zA (mA (pv 0) T.zW T.jO (QI T) hr (bd2 T.qc) (zA (pv 1) zD)) zD)) zD))))))),?_⟩⟩;show Zv _ _ _ [some (.ref x),some (.int g),none] H;walk_at "dd";refine ⟨x,m,g,true,row,rl,l,rfl,hw,D,fun H1 l1 sm hw1=>⟨_,rfl,?_⟩⟩;generalize hn:zC6 g true (zg rl row g).length=n at q;by_cases c:n < 0
   . rw [if_pos (decide_eq_true c)];rw [if_pos c] at q;exact q.alone sm hw1
   . rw [if_neg (by simpa using c)];refine hid fun Z_ z_=>?_;obtain ⟨e0,e1,e2,e3⟩:=zEI (by rw [hn];exact c);rw [hn] at e0;subst e0;rw [if_neg c] at q;obtain ⟨dx,fr,d,tv,h1,h2,h3,h4⟩:=hw1.at_;refine z_ ?_;clear z_;have big:=sizeLine_eq;exact ⟨_,_,h1,rfl,x,m,g,row,rl,l1,rfl,hw1,D,e1,fun H2 l2 s2 hw2=>⟨by show 1<=sizeLine;omega,fun p np=>q.fresh (sm.trans s2) hw2 np⟩⟩
theorem zLo {xs:List V}{i n:Nat}:zJU xs (some (i:Int)) (some ((i:Int)+(n:Int)))=(xs.drop i).take n:=by
 have e:(i:Int)+(n:Int)=((i+n:Nat):Int):=(by omega);rw [e];unfold zJU;rw [HT.zKz,HT.zKz];by_cases h:i<=xs.length
 . by_cases h2:i+n<=xs.length
   . rw [Nat.min_eq_left h2,Nat.min_eq_left h];congr 1;omega
   . rw [Nat.min_eq_right (by omega),Nat.min_eq_left h,List.take_of_length_le (by rw [List.length_drop];omega),List.take_of_length_le (by rw [List.length_drop];omega)]
 . rw [Nat.min_eq_right (by omega),Nat.min_eq_right (by omega),List.drop_eq_nil_of_le (by omega:xs.length<=i),List.drop_eq_nil_of_le (Nat.le_refl _)];simp
inductive zIp (A:Ad)(vs:List V)(H:Hp)(Q:VK)(E:XK):Prop | m (x:Addr)(m c:Int)(g:Nat)(row:List Int)(rl:RL)(l:List Addr)(_:vs=[.ref x,.int g,.int c])(_:WAt A H x m row rl l)(_:Dat rl row)(_:zGG A H x l Q m row rl (zC6 g (jk c) (zg rl row g).length) (if zC6 g (jk c) (zg rl row g).length < 0 then [] else [((zg rl row g).count c:Int)]) [])
theorem zIq (T:Txt K mg A):qM P w K mg base CX0 7 A.ZN A.JJ ["world","g","sign"] (zIp A):=by
 refine T.Za.okc zD8 fun vs H Q E h=>?_
 . obtain ⟨x,m,c,g,row,rl,l,rfl,hw,D,q⟩:=h;refine ⟨rfl,fun _ _ _ s hr=>⟨_,(zC (sA 3 zD8.nd (cA (jK T) hr T.jM T.zl (bd3 T.zl) (zA (pv 0) (zA (pv 1) (zA (cA (zKa T) hr T.zGY T.zA8 (bd1 T.zA8) (zA (pv 2) zD)) zD))))) (zC (z6 (zS zFB (pv 3) zM (zX _)) (zE (zN (cA (zO T) hr T.zP T.zJ (bd1 T.zJ) (zA (pv 3) zD)))) zR) (zE (zN (cA (qa T) hr T.qD T.zV (bd2 T.zV) (zA zM (zA (qY (zA (zHn (zAF hr) (mA (pv 0) T.zW T.Zs (zCM T) hr (bd2 T.jh) (zA (pv 1) zD)) (pv 2) zM (by constructor <;> rfl)) zD)) zD))))))),?_⟩⟩;show Zv _ _ _ [some (.ref x),some (.int g),some (.int c),none] H;walk_at "dd";refine ⟨c,rfl,?_⟩;refine ⟨x,m,g,jk c,row,rl,l,rfl,hw,D,fun H1 l1 sm hw1=>⟨_,rfl,?_⟩⟩;generalize hn:zC6 g (jk c) (zg rl row g).length=n at q;by_cases c1:n < 0
   . rw [if_pos (decide_eq_true c1)];rw [if_pos c1] at q;exact q.alone sm hw1
   . rw [if_neg (by simpa using c1)];refine hid fun Z_ z_=>?_;obtain ⟨e0,e1,e2,e3⟩:=zEI (by rw [hn];exact c1);rw [hn] at e0;subst e0;rw [if_neg c1] at q;obtain ⟨dx,fr,d,tv,h1,h2,h3,h4⟩:=hw1.at_;refine z_ ?_;clear z_;have big:=sizeLine_eq;refine ⟨_,_,h1,rfl,x,m,g,row,rl,l1,rfl,hw1,D,e1,fun t H2 l2 s2 hw2 ht=>⟨t,rfl,?_⟩⟩;have ht':=(zG.mp ht).2;refine ⟨.inl ⟨_,.inl ht'⟩,_,zQr (.inl ht') c,by show 1<=sizeLine;omega,?_⟩;rw [zPl,(zFW rl row g).2.1];exact fun p np=>q.fresh (sm.trans s2) hw2 np
inductive zIr (A:Ad)(vs:List V)(H:Hp)(Q:VK)(E:XK):Prop | m (x:Addr)(m:Int)(g i n:Nat)(row:List Int)(rl:RL)(l:List Addr)(_:vs=[.ref x,.int g,.int i,.int n])(_:WAt A H x m row rl l)(_:Dat rl row)(_:(zC6 g (decide (n<=10000)) (zg rl row g).length=0->∀ j,j<=g->(zg rl row j).length < sizeLine))(_:zGG A H x l Q m row rl (if zC6 g (decide (n<=10000)) (zg rl row g).length < 0 then zC6 g (decide (n<=10000)) (zg rl row g).length else ((((zg rl row g).drop i).take n).length:Int)) [] (if zC6 g (decide (n<=10000)) (zg rl row g).length < 0 then [] else ((zg rl row g).drop i).take n))
theorem zIs (T:Txt K mg A):qM P w K mg base CX0 7 A.ZO A.JK ["world","g","first","n"] (zIr A):=by
 refine T.Zb.okc zD9 fun vs H Q E h=>?_
 . obtain ⟨x,m,g,i,n,row,rl,l,rfl,hw,D,hz,q⟩:=h;refine ⟨rfl,fun _ _ _ s hr=>⟨_,(zC (sA 4 zD9.nd (cA (jK T) hr T.jM T.zl (bd3 T.zl) (zA (pv 0) (zA (pv 1) (zA (zBh zDl (pv 3) (zb rfl T.zBK) (zX _)) zD))))) (zC (z6 (zS zFB (pv 4) zM (zX _)) (zE (zN (cA (zO T) hr T.zP T.zJ (bd1 T.zJ) (zA (pv 4) zD)))) zR) (zE (zN (cA (zHQ T) hr T.zDI T.Z2 (bd1 T.Z2) (zA (zCb zH8 (mA (pv 0) T.zW T.zm (zw T) hr (bd2 T.zf) (zA (pv 1) zD)) (zAi (pv 2)) (zAi (z9 ZK (pv 2) (pv 3)))) zD)))))),?_⟩⟩;show Zv _ _ _ [some (.ref x),some (.int g),some (.int i),some (.int n),none] H;walk_at "dd";have e9:decide ((n:Int)<=10000)=decide (n<=10000):=decide_eq_decide.mpr (by omega);rw [e9];refine ⟨x,m,g,decide (n<=10000),row,rl,l,rfl,hw,D,fun H1 l1 sm hw1=>⟨_,rfl,?_⟩⟩;generalize hn:zC6 g (decide (n<=10000)) (zg rl row g).length=u at q hz;by_cases c1:u < 0
   . rw [if_pos (decide_eq_true c1)];rw [if_pos c1,if_pos c1] at q;exact q.alone sm hw1
   . rw [if_neg (by simpa using c1)];refine hid fun Z_ z_=>?_;obtain ⟨e0,e1,e2,e3⟩:=zEI (by rw [hn];exact c1);rw [hn] at e0;rw [if_neg c1,if_neg c1] at q;obtain ⟨dx,fr,d,tv,h1,h2,h3,h4⟩:=hw1.at_;refine z_ ?_;clear z_;refine ⟨_,_,h1,rfl,x,m,g,row,rl,l1,rfl,hw1,e1,hz e0,fun t H2 s2 ht=>⟨t,rfl,_,SqL.of ht,fun p np=>?_⟩⟩;rw [zLo,<- List.map_drop,<- List.map_take];have s3:=s2.trans (zK (o:=.lst ((((zg rl row g).drop i).take n).map V.int)) np);exact q.zVO (sm.trans (zZ s3)) (hw1.mono s3) (QJ (hw1.mono s2).taken np)
end
section
inductive zIt (A:Ad)(vs:List V)(H:Hp)(Q:VK)(E:XK):Prop | m (x:Addr)(m k:Int)(row:List Int)(rl:RL)(l:List Addr)(_:vs=[.ref x,.int k])(_:WAt A H x m row rl l)(_:(k∉jW->zGG A H x l Q m row rl (-1) [] []))(_:(k∈jW->zGG A H x l Q k [] [] 0 [] []))
theorem zIu (T:Txt K mg A):qM P w K mg base CX0 4 A.ZW A.JS ["world","turns"] (zIt A):=by
 refine T.Zi.okc zIf fun vs H Q E h=>?_
 . obtain ⟨x,m,k,row,rl,l,rfl,hw,q1,q2⟩:=h;refine ⟨rfl,fun _ _ _ s hr=>⟨_,(zC (z6 (zS zMa (pv 1) (Z1 rfl T.zAa) rfl) (zE (zN (cA (zO T) hr T.zP T.zJ (bd1 T.zJ) (zA (zFA zAD zM) zD)))) zR) (zC (z7 (mA (pv 0) T.zW T.jH (jt T) hr (bd4 T.qb) (zA (pv 1) (zA (qY zD) (zA zEn zD))))) (zE (zN (cA (zO T) hr T.zP T.zJ (bd1 T.zJ) (zA zM zD)))))),?_⟩⟩;show Zv _ _ _ [some (.ref x),some (.int k)] H;walk_at "dd";refine hid fun Z_ z_=>?_;obtain ⟨dx,fr,d,tv,h1,h2,h3,h4⟩:=hw.at_;refine z_ ?_;clear z_;refine ⟨_,.inr (T.Q0 H),rfl,zSt jW,?_⟩;have e9:inV (V.int k) [V.int 3,V.int 4,V.int 5,V.int 6,V.int 8,V.int 10,V.int 12]=decide (k∈jW):=zPg k jW;rw [e9];by_cases c:k∈jW
   . rw [if_neg (by simp [c])];refine ⟨_,_,h1,rfl,Nat.zero_le _,fun p np p1 np1=>⟨x,dx,p,p1,k,wFs m fr d tv,rfl,?_,.inr ⟨_,_,_,_,rfl⟩,?_⟩⟩
     . have np1' : H p1=none:=(zK np).free np1;rw [zF (zI h1 np1'),zF (zI h1 np)];exact h1
     . have np1' : H p1=none:=(zK np).free np1;have nxp:x≠p:=zI h1 np;have nxp1:x≠p1:=zI h1 np1';have npp1:p≠p1:=zI zB np1;have s1:=(zK (o:=.lst []) np).trans (zK (o:=.dK []) np1);have sm:=(zZ (l:=l) s1).trans (zC5 (H:=upd (upd H p (.lst [])) p1 (.dK [])) (o:=.ins A.qB dx (wFs k p p1 .non)) hw.own);refine (q2 c).alone sm ⟨dx,p,p1,.non,zB,zG.mpr ⟨by simp;exact fun z=>nxp z.symm,?_⟩,⟨[],zG.mpr ⟨by simp;exact fun z=>nxp1 z.symm,?_⟩,.nil⟩,.inl ⟨rfl,rfl⟩⟩
       . rw [zF (fun z=>nxp z.symm),zF npp1,zB];rfl
       . rw [zF (fun z=>nxp1 z.symm),zB]
   . rw [if_pos (by simp [c])];exact (q1 c).alone (E:=E0) (fun _ _ e=>e) hw
inductive zLp (A:Ad)(vs:List V)(H:Hp)(Q:VK)(E:XK):Prop | m (x a:Addr)(m:Int)(row ts:List Int)(rl:RL)(l:List Addr)(_:vs=[.ref x,.ref a])(_:WAt A H x m row rl l)(_:hide H l a=some (.lst (ts.map V.int)))(_:(qU m ts=false->zGG A H x l Q m row rl (-3) [] []))(_:(qU m ts=true->zGG A H x l Q m ts rl 0 [] []))
theorem zLq (T:Txt K mg A):qM P w K mg base CX0 7 A.Jo A.zBZ ["world","text"] (zLp A):=by
 refine T.J3.okc zLZ fun vs H Q E h=>?_
 . obtain ⟨x,a,m,row,ts,rl,l,rfl,hw,ha,q1,q2⟩:=h;refine ⟨rfl,fun _ _ _ s hr=>⟨_,(zC (z6 (zDa (qQ (cA (zNE T) hr T.zHv T.zDM (bd2 T.zDM) (zA (pv 1) (zA (zU (pv 0) rfl) zD))) (fun _=>rfl))) (zE (zN (cA (zO T) hr T.zP T.zJ (bd1 T.zJ) (zA (zFA zAD zM) zD)))) zR) (zC (z7 (mA (pv 0) T.zW T.zBI (zHe T) hr (bd2 T.Qt) (zA (pv 1) zD))) (zE (zN (cA (zO T) hr T.zP T.zJ (bd1 T.zJ) (zA zM zD)))))),?_⟩⟩;show Zv _ _ _ [some (.ref x),some (.ref a)] H;walk_at "dd";refine hid fun Z_ z_=>?_;obtain ⟨dx,fr,d,tv,h1,h2,h3,h4⟩:=hw.at_;refine z_ ?_;clear z_;refine ⟨_,_,_,h1,T.zW,T.zx,_,rfl,a,ts,m,rfl,SqL.of (zG.mp ha).2,qU m ts,rfl,?_⟩;cases c:qU m ts with
   | false=>exact (q1 c).alone (E:=E0) (fun _ _ e=>e) hw
   | true =>rw [if_neg (by decide)];refine ⟨_,_,h1,rfl,x,a,m,row,ts,rl,l,rfl,hw,ha,fun H1 sm hw1=>?_⟩;exact (q2 c).alone sm hw1
inductive zIv (A:Ad)(vs:List V)(H:Hp)(Q:VK)(E:XK):Prop | m (x:Addr)(m:Int)(row:List Int)(rl:RL)(l:List Addr)(_:vs=[.ref x])(_:WAt A H x m row rl l)(_:m∈jW)(_:row.length<=255)(_:rl.length < 64)(_:(∀ x∈rl,x.2.length<=255))(_:∀ ns:List Int,ns.Perm (rl.map (·.1))->ns.Pairwise (·<=·)->zGG A H x l Q m row rl ((zc m ++ row ++ [10] ++ qI rl ns).length:Int) [] (zc m ++ row ++ [10] ++ qI rl ns))
theorem zIw (T:Txt K mg A):qM P w K mg base CX0 4 A.ZX A.JT ["world"] (zIv A):=by
 refine T.Zj.okc zED fun vs H Q E h=>?_
 . obtain ⟨x,m,row,rl,l,rfl,hw,mT,l1,l2,l3,q⟩:=h;refine ⟨rfl,fun _ _ _ s hr=>⟨_,(zC (sA 1 zED.nd (cA (zQq T) hr T.zJL T.zEh (bd3 T.zEh) (zA (zU (pv 0) rfl) (zA (zU (pv 0) rfl) (zA (zU (pv 0) rfl) zD))))) (zE (zN (cA (zHQ T) hr T.zDI T.Z2 (bd1 T.Z2) (zA (pv 1) zD))))),?_⟩⟩;show Zv _ _ _ [some (.ref x),none] H;walk_at "dd";refine hid fun Z_ z_=>?_;obtain ⟨dx,fr,d,tv,h1,h2,h3,h4⟩:=hw.at_;refine z_ ?_;clear z_;refine ⟨_,_,_,h1,T.zW,T.zx,_,rfl,_,_,_,h1,T.zW,T.qG,_,rfl,_,_,_,h1,T.zW,T.jE,_,rfl,m,fr,d,row,rl,rfl,mT,(zG.mp h2).2,h3.mono (zEG _ _),l1,l2,l3,fun ns pm srt p H1 s1 np hp=>?_⟩;have hpl:hide H1 l p=some (.lst ((zc m ++ row ++ [10] ++ qI rl ns).map V.int)):=zG.mpr ⟨fun z=>by
     obtain ⟨o,e⟩:=hw.taken p z;rw [np] at e;exact absurd e (fun z=>by cases z),hp⟩
   exact (q ns pm srt).zVO (zZ s1) (hw.mono s1) hpl
inductive zJu (A:Ad)(vs:List V)(H:Hp)(Q:VK)(E:XK):Prop | m (x a:Addr)(m c:Int)(row ts:List Int)(rl:RL)(l:List Addr)(_:vs=[.ref x,.int c,.ref a])(_:WAt A H x m row rl l)(_:rl.length < 64)(_:hide H l a=some (.lst (ts.map V.int)))(_:(isLet c=false->zGG A H x l Q m row rl (-1) [] []))(_:(isLet c=true->qU m ts=false->zGG A H x l Q m row rl (-3) [] []))(_:(isLet c=true->qU m ts=true->zGG A H x l Q m row (zQX rl c ts) 0 [] []))
theorem zJv (T:Txt K mg A):qM P w K mg base CX0 7 A.QX A.zAO ["world","letter","text"] (zJu A):=by
 refine T.Qp.okc zJi fun vs H Q E h=>?_
 . obtain ⟨x,a,m,c,row,ts,rl,l,rfl,hw,hl,ha,q0,q1,q2⟩:=h;refine ⟨rfl,fun _ _ _ s hr=>⟨_,(zC (z6 (zDa (qQ (cA (zBO T) hr T.Q7 T.qm (bd1 T.qm) (zA (pv 1) zD)) (fun _=>rfl))) (zE (zN (cA (zO T) hr T.zP T.zJ (bd1 T.zJ) (zA (zFA zAD zM) zD)))) zR) (zC (z6 (zDa (qQ (cA (zNE T) hr T.zHv T.zDM (bd2 T.zDM) (zA (pv 2) (zA (zU (pv 0) rfl) zD))) (fun _=>rfl))) (zE (zN (cA (zO T) hr T.zP T.zJ (bd1 T.zJ) (zA (zFA zAD zM) zD)))) zR) (zC (z7 (mA (pv 0) T.zW T.zAC (zG5 T) hr (bd3 T.Zr) (zA (pv 1) (zA (pv 2) zD)))) (zE (zN (cA (zO T) hr T.zP T.zJ (bd1 T.zJ) (zA zM zD))))))),?_⟩⟩;show Zv _ _ _ [some (.ref x),some (.int c),some (.ref a)] H;walk_at "dd";refine hid fun Z_ z_=>?_;obtain ⟨dx,fr,d,tv,h1,h2,h3,h4⟩:=hw.at_;refine z_ ?_;clear z_;refine ⟨c,rfl,isLet c,rfl,?_⟩;cases c0:isLet c with
   | false=>exact (q0 c0).alone (E:=E0) (fun _ _ e=>e) hw
   | true =>
     rw [if_neg (by decide)];refine ⟨_,_,_,h1,T.zW,T.zx,_,rfl,a,ts,m,rfl,SqL.of (zG.mp ha).2,qU m ts,rfl,?_⟩;cases c1:qU m ts with
     | false=>exact (q1 c0 c1).alone (E:=E0) (fun _ _ e=>e) hw
     | true =>rw [if_neg (by decide)];refine ⟨_,_,h1,rfl,x,a,c,m,row,ts,rl,l,rfl,hw,hl,ha,fun H1 sm hw1=>?_⟩;exact (q2 c0 c1).alone sm hw1
theorem zS7 {H:Hp}{d x:Addr}{rl:RL}{C dx:Addr}{fs:List (Str×V)}{o:HO}(h:jX H d rl)(hx:H x=some (.ins C dx fs)):jX (hide (upd H x o) [x]) d rl:=by obtain ⟨kvs,h1,h2⟩:=h;have k:∀ b u,H b=some u->b≠x->hide (upd H x o) [x] b=some u:=fun b u e n=>zG.mpr ⟨by simpa using n,by rw [zF n];exact e⟩;refine ⟨kvs,k _ _ h1 (fun z=>by rw [z,hx] at h1;cases h1),Paired.zFH h2 fun kv y h=>?_⟩;obtain ⟨e1,r,e2,e3⟩:=h;exact ⟨e1,r,e2,k _ _ e3 (fun z=>by rw [z,hx] at e3;cases e3)⟩
inductive zJw (A:Ad)(vs:List V)(H:Hp)(Q:VK)(E:XK):Prop | m (x a:Addr)(m:Int)(row ts:List Int)(rl:RL)(l:List Addr)(_:vs=[.ref x,.ref a])(_:WAt A H x m row rl l)(_:hide H l a=some (.lst (ts.map V.int)))(_:(∀ x∈ts,qS x))(_:ts.length<=sizeLine)(_:(ts.length > 65536->zGG A H x l Q m row rl (-1) [] []))(_:(ts.length<=65536->∀ e:Nat,Trail.readWorld (ts.map u8)=.error e->zGG A H x l Q m row rl (-3) [(e:Int)] []))(_:(ts.length<=65536->∀ (m' : Int)(zGf:List Int)(rl' : RL),Trail.readWorld (ts.map u8)=.ok ⟨m'.toNat,zGf.map u8,conv rl'⟩->m'∈jW->qU m' zGf=true->(∀ x∈zGf,qS x)->(rl'.map (·.1)).Pairwise (· < ·)->(∀ x∈rl',isLet x.1=true/\qU m' x.2=true/\∀ y∈x.2,qS y)->zGG A H x l Q m' zGf rl' 0 [] []))
theorem zJx (T:Txt K mg A):qM P w K mg base CX0 8 A.QY A.zAP ["world","text"] (zJw A):=by
 refine T.Qq.okc zBz fun vs H Q E h=>?_
 . obtain ⟨x,a,m,row,ts,rl,l,rfl,hw,ha,hB,hz,q0,q1,q2⟩:=h;refine ⟨rfl,fun _ _ _ s hr=>⟨_,(zC (z6 (zS zP6 (zd zQ (by rfl) T.QB PySem.boot_len (zA (pv 1) zD)) (zb rfl T.zCB) (zX _)) (zE (zN (cA (zO T) hr T.zP T.zJ (bd1 T.zJ) (zA (zFA zAD zM) zD)))) zR) (zC (zXY (i:=3) rfl rfl rfl T.qE rfl T.Z7 zBz.nd rfl rfl (fun pn E1 EX hx=>(zE (sA 2 zBz.nd (zFN (zNG T) (hr.mono (by decide)) rfl T.zFm T.zBE.kp (bd1 T.zBE) .nil hx (zA (pv 1) zD))))) (fun e1=>(zE (zN (zTw (zGF T) (zCC.mark ((zXW hr).mono (by decide))) rfl T.qD T.zV.kp (bd2 T.zV) (zA (zFA zAD zM) (zA (qY (zA (zVo T.qE (pv 3) rfl) zD)) zD))))))) (zC (z7 (mA (pv 0) T.zW T.jH (jt T) hr (bd4 T.qb) (zA (ixT (pv 2) zM) (zA (ixT (pv 2) zM) (zA (ixT (pv 2) zM) zD))))) (zE (zN (cA (zO T) hr T.zP T.zJ (bd1 T.zJ) (zA zM zD))))))),?_⟩⟩;show Zv _ _ _ [some (.ref x),some (.ref a),none,none] H;walk_at "dd";have ha':=(zG.mp ha).2;refine ⟨_,.inl (SqL.of ha'),?_⟩;rw [List.length_map];by_cases c:ts.length<=65536
   . rw [if_neg (by simp only [decide_eq_true_eq];omega)];simp only [zZC];walk_at "dd";refine ⟨a,ts,rfl,SqL.of ha',hB,hz,fun e he d H' sm hd=>⟨d,rfl,fun ea nea=>?_⟩,fun m' zGf rl' e1 e2 e3 e4 e5 e6 H' p sm rd=>?_⟩
     . have big:=sizeLine_eq;have s1:=sm.trans (zK (o:=HeldAt A.zr d ea) nea);show zXZ A.zr (zFr 3) "place" [none,none,none,some (.ref ea)] _ _;refine ⟨_,rfl,ea,d,_,_,rfl,zB,by rw [zF (zI hd nea)];exact hd,rfl,by show 1<=sizeLine;omega,fun p np=>?_⟩;exact (q1 c e he).fresh (zZ s1) (hw.mono s1) np
     . refine hid fun Z_ z_=>?_;obtain ⟨pr,pd,r1,r2,r3⟩:=rd.at_;obtain ⟨dx,fr,d,tv,h1,h2,h3,h4⟩:=hw.at_;refine z_ ?_;clear z_;have h1':=sm _ _ h1;refine ⟨_,_,h1',rfl,p,rfl,_,SqT.of r1,_,rfl,p,rfl,_,SqT.of r1,_,rfl,p,rfl,_,SqT.of r1,_,rfl,x,dx,pr,pd,m',_,rfl,h1',.inr ⟨_,_,_,_,rfl⟩,?_⟩;refine (q2 c m' zGf rl' e1 e2 e3 e4 e5 e6).alone ((zZ sm).trans (zC5 (o:=.ins A.qB dx (wFs m' pr pd .non)) hw.own)) ⟨dx,pr,pd,.non,zB,?_,zS7 r3 h1',.inl ⟨rfl,rfl⟩⟩;have npx:pr≠x:=fun z=>by rw [z,h1'] at r2;cases r2
       exact zG.mpr ⟨by simpa using npx,by rw [zF npx];exact r2⟩
   . rw [if_pos (by simp only [decide_eq_true_eq];omega)];exact (q0 (by omega)).alone (E:=E0) (fun _ _ e=>e) hw
end
section
theorem jX.off {H:Hp}{d c:Addr}{rl:RL}{l:List Addr}{C dx:Addr}{fs:List (Str×V)}{o:HO}(h:jX (hide H l) d rl)(hc:H c=some (.ins C dx fs)):jX (hide (upd H c o) l) d rl:=by
 obtain ⟨kvs,h1,h2⟩:=h;have k:∀ b u,hide H l b=some u->(∀ C dx fs,u≠.ins C dx fs)->hide (upd H c o) l b=some u:=fun b u e n=>by obtain ⟨e1,e2⟩:=zG.mp e;refine zG.mpr ⟨e1,?_⟩;rw [zF (fun z:b=c=>by rw [z,hc] at e2;exact n _ _ _ (Option.some.inj e2).symm)];exact e2
 refine ⟨kvs,k _ _ h1 (fun _ _ _ z=>by cases z),Paired.zFH h2 fun kv y h=>?_⟩;obtain ⟨e1,r,e2,e3⟩:=h;exact ⟨e1,r,e2,k _ _ e3 (fun _ _ _ z=>by cases z)⟩
theorem WAt.off {H:Hp}{x c:Addr}{m:Int}{row:List Int}{rl:RL}{l:List Addr}{C dx:Addr}{fs:List (Str×V)}{o:HO}(h:WAt A H x m row rl l)(hc:H c=some (.ins C dx fs))(nc:c∉l):WAt A (upd H c o) x m row rl l:=by
 have own:=h.own;obtain ⟨dw,fr,d,tv,h1,h2,h3,h4⟩:=h.at_;have nx:x≠c:=fun z=>nc (z ▸ own);refine ⟨dw,fr,d,tv,by rw [zF nx];exact h1,?_,h3.off hc,?_⟩
 . obtain ⟨e1,e2⟩:=zG.mp h2;refine zG.mpr ⟨e1,?_⟩;rw [zF (fun z:fr=c=>by rw [z,hc] at e2;cases e2)];exact e2
 . rcases h4 with h4 | ⟨t,bg,e1,e2,e3,tl⟩
   . exact .inl h4
   . refine .inr ⟨t,bg,e1,e2,e3,tl.keep hc ?_ (zPo (by simp))⟩;rw [e2] at nc;intro z;apply nc;rw [<- z];simp
def zLr (K:Fg)(A:Ad)(H:Hp)(l:List Addr)(cu a:Addr)(ns:List Int)(i:Nat):Prop:=∃ dx,hide H l cu=some (cuO A.za dx a i)/\SqL K (hide H l) a (ns.map V.int)
def Kept (cu:Addr)(H:Hp)(l:List Addr)(H' : Hp)(l' : List Addr):Prop:=zz (hide H (cu :: l)) (hide H' (cu :: l'))
theorem Je {H:Hp}{c b:Addr}{l:List Addr}{o:HO}:hide H (c :: l) b=some o↔b≠c/\hide H l b=some o:=by rw [zG,zG,List.mem_cons,not_or];exact and_assoc
theorem zS8 {H:Hp}{l:List Addr}{a:Addr}{xs:List V}(h:SqL K (hide H l) a xs):SqL K H a xs:=(zEG H l).seq h
theorem zWI {H:Hp}{l:List Addr}{a x C dx:Addr}{xs:List V}{fs:List (Str×V)}{o:HO}(h:SqL K (hide H l) a xs)(hx:H x=some (.ins C dx fs)):SqL K (hide (upd H x o) l) a xs:=by
 have k:∀ b u,hide H l b=some u->(∀ C dx fs,u≠.ins C dx fs)->hide (upd H x o) l b=some u:=fun b u e n=>by obtain ⟨e1,e2⟩:=zG.mp e;refine zG.mpr ⟨e1,?_⟩;rw [zF (fun z:b=x=>by rw [z,hx] at e2;exact n _ _ _ (Option.some.inj e2).symm)];exact e2
 rcases h with (h | ⟨od,h⟩) | h
 . exact .inl (.inl (k _ _ h fun _ _ _ z=>by cases z))
 . exact .inl (.inr ⟨od,k _ _ h fun _ _ _ z=>by cases z⟩)
 . exact .inr h
theorem zLr.step {H:Hp}{l:List Addr}{cu a:Addr}{ns:List Int}{i:Nat}(h:zLr K A H l cu a ns i):∃ dx,H cu=some (cuO A.za dx a i)/\cu∉l/\SqL K H a (ns.map V.int)/\∀ j,zLr K A (upd H cu (cuO A.za dx a j)) l cu a ns j:=by obtain ⟨dx,h1,h2⟩:=h;obtain ⟨e1,e2⟩:=zG.mp h1;exact ⟨dx,e2,e1,zS8 h2,fun j=>⟨dx,zG.mpr ⟨e1,zB⟩,zWI h2 e2⟩⟩
theorem zLr.same {H H' : Hp}{l l' : List Addr}{cu a:Addr}{ns:List Int}{i:Nat}(h:zLr K A H l cu a ns i)(s:zz (hide H l) (hide H' l')):zLr K A H' l' cu a ns i:=by obtain ⟨dx,h1,h2⟩:=h;exact ⟨dx,s _ _ h1,s.seq h2⟩
theorem zUS {H H' : Hp}{l l' : List Addr}{cu:Addr}{o:HO}(s:zz (hide (upd H cu o) l) (hide H' l')):Kept cu H l H' l':=fun b u e=>by obtain ⟨e1,e2⟩:=Je.mp e;refine Je.mpr ⟨e1,s _ _ ?_⟩;obtain ⟨e3,e4⟩:=zG.mp e2;exact zG.mpr ⟨e3,by rw [zF e1];exact e4⟩
structure Did (K:Fg)(A:Ad)(H:Hp)(x cu a:Addr)(ns:List Int)(l:List Addr)(s:Trail.World)(c:List (List Int))(t:List Int)(r:Addr)(H' : Hp):Prop where
 mk ::
 all:∃ (l' : List Addr)(j:Nat)(m' : Int)(zGf:List Int)(rl' : RL)(n:Int)(li tx:List Int),Kept cu H l H' l'/\zLr K A H' l' cu a ns j/\ns.drop j=t/\WAt A H' x m' zGf rl' l'/\j8 (TrailNeutral.step s c).1 m' zGf rl'/\zG6 A (hide H' l') r n li tx/\(TrailNeutral.step s c).2=zDh n li tx
structure zKk (K:Fg)(A:Ad)(H:Hp)(x cu a:Addr)(ns:List Int)(i:Nat)(l:List Addr)(m:Int)(row:List Int)(rl:RL)(s:Trail.World):Prop where
 cur:zLr K A H l cu a ns i
 wat:WAt A H x m row rl l
 rel:j8 s m row rl
theorem qC {H:Hp}{x cu a dx:Addr}{ns:List Int}{l:List Addr}{s:Trail.World}{c:List (List Int)}{t:List Int}{Q:VK}(hstep:∀ j,zLr K A (upd H cu (cuO A.za dx a j)) l cu a ns j)(q:∀ r H',Did K A H x cu a ns l s c t r H'->Q (.ref r) H'){j:Nat}(hj:ns.drop j=t){m' : Int}{zGf:List Int}{rl' : RL}{n:Int}{li tx:List Int}(hR:j8 (TrailNeutral.step s c).1 m' zGf rl')(hf:(TrailNeutral.step s c).2=zDh n li tx):zGG A (upd H cu (cuO A.za dx a j)) x l Q m' zGf rl' n li tx :=
 fun r H' l' sm hw ha=>q r H' ⟨l',j,m',zGf,rl',n,li,tx,zUS sm,(hstep j).same sm,hj,hw,hR,ha,hf⟩
theorem zGG.mono {H H1:Hp}{x:Addr}{l:List Addr}{Q:VK}{m:Int}{row:List Int}{rl:RL}{n:Int}{li tx:List Int}(h:zGG A H x l Q m row rl n li tx)(s:zz H H1):zGG A H1 x l Q m row rl n li tx :=
 fun r H' l' sm hw ha=>h r H' l' ((zZ s).trans sm) hw ha
theorem zNP {t:List Int}(h:TrailNeutral.long t 66000 0 255=true):t.length<=66000/\∀ x∈t,qS x:=by unfold TrailNeutral.long at h;simp only [Bool.and_eq_true,decide_eq_true_eq,List.all_eq_true] at h;exact h
theorem w32 {z:Int}(h:TrailNeutral.whole32 z=true):0<=z/\z<=4294967295:=by unfold TrailNeutral.whole32 at h;simpa using h
theorem drop_one {ns:List Int}{i:Nat}(h:1<=(ns.drop i).length):∃ v,ns[i]? = some v/\ns.drop i=v :: ns.drop (i+1):=by rw [List.length_drop] at h;have e:ns[i]? = some (ns[i]'(by omega)):=List.getElem?_eq_getElem (by omega);exact ⟨_,e,drop_cons e⟩
theorem zQx:∀ m∈jW,∀ z∈zc m,qS z:=by decide
theorem zQy {s:Trail.World}{m:Int}{row:List Int}{rl:RL}(R:j8 s m row rl){ns:List Int}(hp:ns.Perm (rl.map (·.1))):∀ z∈zc m ++ row ++ [10] ++ qI rl ns,qS z:=by
 intro z hz;simp only [List.mem_append,List.mem_singleton] at hz;rcases hz with ((hz | hz) | hz) | hz
 . exact zQx m R.mT z hz
 . exact R.rowOk.2 z hz
 . rw [hz];decide
 . unfold qI at hz;obtain ⟨c,hc,hz⟩:=List.mem_flatMap.mp hz;simp only [List.mem_cons,List.mem_append,List.mem_singleton] at hz;rcases hz with rfl | rfl | hz | hz
   . obtain ⟨y,hy,rfl⟩:=List.mem_map.mp (hp.mem_iff.mp hc);exact zCg (R.rlOk y hy).1
   . decide
   . unfold rowOf at hz;cases q:look rl c with
     | none=>rw [q] at hz;cases hz
     | some r =>rw [q] at hz;obtain ⟨y,hy,_,rfl⟩:=zIP q;exact (R.rlOk y hy).2.2 z hz
   . rcases hz with rfl | hz
     . decide
     . cases hz
inductive zS9 (K:Fg)(A:Ad)(vs:List V)(H:Hp)(Q:VK)(E:XK):Prop | m (x cu a:Addr)(ns:List Int)(i:Nat)(l:List Addr)(m:Int)(row:List Int)(rl:RL)(s:Trail.World)(p:Int)(c:List (List Int))(t:List Int)(_:vs=[.ref x,.int p,.ref cu])(_:zKk K A H x cu a ns i l m row rl s)(_:1<=p)(_:p<=5)(_:PyFlat.call PyWqazat.shape (p :: ns.drop i)=some (c,t))(_:TrailNeutral.asked1 c=true)(_:∀ r H',Did K A H x cu a ns l s c t r H'->Q (.ref r) H')
theorem zJy (T:Txt K mg A):qM P w K mg base CX0 9 A.Qg A.zAT ["world","call","cursor"] (zS9 K A):=by
 refine T.Qv.okc zFL fun vs H Q E h=>?_
 . obtain ⟨x,cu,a,ns,i,l,m,row,rl,s,p,c,t,rfl,B,p1,p2,hc,hask,q⟩:=h;refine ⟨rfl,fun _ _ _ _ hr=>⟨_,(zC (z6 (zS QC (pv 1) (zb rfl T.zMF) (zX _)) (zE (zN (cA (zIu T) hr T.zB9 T.Zi (bd2 T.Zi) (zA (pv 0) (zA (mA0 (pv 2) T.zj T.zq (zu T) hr (bd1 T.zh)) zD))))) zR) (zC (z6 (zS QC (pv 1) (zb rfl T.zWe) (zX _)) (zE (zN (cA (zLq T) hr T.zEj T.J3 (bd2 T.J3) (zA (pv 0) (zA (mA0 (pv 2) T.zj T.qA (qh T) hr (bd1 T.z0)) zD))))) zR) (zC (z6 (zS QC (pv 1) (zb rfl T.zTK) (zX _)) (zC (sA 3 zFL.nd (mA0 (pv 2) T.zj T.zq (zu T) hr (bd1 T.zh))) (zE (zN (cA (zJv T) hr T.zDT T.Qp (bd3 T.Qp) (zA (pv 0) (zA (pv 3) (zA (mA0 (pv 2) T.zj T.qA (qh T) hr (bd1 T.z0)) zD))))))) zR) (zC (z6 (zS QC (pv 1) (zb rfl T.zTL) (zX _)) (zE (zN (cA (zJx T) hr T.zDU T.Qq (bd2 T.Qq) (zA (pv 0) (zA (mA0 (pv 2) T.zj T.qA (qh T) hr (bd1 T.z0)) zD))))) zR) (zE (zN (cA (zIw T) hr T.zCA T.Zj (bd1 T.Zj) (zA (pv 0) zD)))))))),?_⟩⟩;show Zv _ _ _ [some (.ref x),some (.int p),some (.ref cu),none] H;obtain ⟨dx,hcu,ncu,hsq,hstep⟩:=B.cur.step;have big:=sizeLine_eq;walk_at "dd";have hp:p=1\/p=2\/p=3\/p=4\/p=5:=(by omega);rcases hp with rfl | rfl | rfl | rfl | rfl
   . refine hid fun Z_ z_=>?_;obtain ⟨a1,a2,a3⟩:=call_num (n:=1) rfl hc;obtain ⟨v,hv,hd⟩:=drop_one a1;refine z_ ?_;clear z_;rw [hd] at a2 a3;simp only [List.take_succ_cons,List.take_zero,List.drop_succ_cons,List.drop_zero] at a2 a3;subst a2;have v0:=w32 (show TrailNeutral.whole32 v=true from hask);have st:=zT9 (w:=s) v0.1;rw [if_pos (by decide)];refine ⟨rfl,_,_,hcu,rfl,cu,dx,a,i,ns,v,rfl,hcu,hsq,hv,x,m,v,row,rl,l,rfl,B.wat.off hcu ncu,fun k=>?_,fun k=>?_⟩
     . rw [if_neg k] at st;exact qC hstep q a3.symm (by rw [st];exact B.rel) (by rw [st];rfl)
     . rw [if_pos k] at st;exact qC hstep q a3.symm (by rw [st];exact j8.start k) (by rw [st];rfl)
   . refine hid fun Z_ z_=>?_;obtain ⟨_,k,sl,a1,a2,a3,a4⟩:=zF5 (n:=0) rfl hc;simp only [List.drop_zero,List.take_zero] at a1 a3;obtain ⟨v,hv,hd⟩:=drop_one (ns:=ns) (i:=i) (by rw [a1];simp);refine z_ ?_;clear z_;rw [a1] at hd;injection hd with hd1 hd2;subst hd1 a3;have hb:=zNP (show TrailNeutral.long (sl.take k) 66000 0 255=true from hask);have st:=zXl B.rel hb.2;have hlen:i+1+k<=ns.length:=by
       have:=congrArg List.length hd2;rw [List.length_drop] at this;have:=(List.getElem?_eq_some_iff.mp hv).1;omega
     have ht:ns.drop (i+1+k)=t:=(by rw [a4,hd2,List.drop_drop]);rw [if_neg (by decide)];refine ⟨rfl,rfl,?_⟩;rw [if_pos (by decide)];refine ⟨_,_,hcu,rfl,cu,dx,a,i,k,ns,rfl,hcu,hsq,hv,hlen,fun p np=>?_⟩;rw [<- hd2];have hw1:=B.wat.off (o:=cuO A.za dx a (i+1+k)) hcu ncu;have np1:(upd H cu (cuO A.za dx a (i+1+k))) p=none:=by rw [zF (fun z:p=cu=>by rw [z,hcu] at np;cases np)];exact np
     have s1:=zK (o:=.lst ((sl.take k).map V.int)) np1;refine ⟨x,p,m,row,sl.take k,rl,l,rfl,hw1.mono s1,QJ hw1.taken np1,fun e=>?_,fun e=>?_⟩
     . rw [if_neg (by rw [e];decide)] at st;exact (qC hstep q ht (by rw [st];exact B.rel) (by rw [st];rfl)).mono s1
     . rw [if_pos e] at st;exact (qC hstep q ht (by rw [st];exact B.rel.zGf e hb.2) (by rw [st];rfl)).mono s1
   . refine hid fun Z_ z_=>?_;obtain ⟨b0,k,sl,a1,a2,a3,a4⟩:=zF5 (n:=1) rfl hc;obtain ⟨v,hv,hd⟩:=drop_one b0;rw [hd] at a1 a3;simp only [List.drop_succ_cons,List.drop_zero,List.take_succ_cons,List.take_zero] at a1 a3;obtain ⟨k',hk,hd'⟩:=drop_one (ns:=ns) (i:=i+1) (by rw [a1];simp);refine z_ ?_;clear z_;rw [a1] at hd';injection hd' with hd1 hd2;subst hd1 a3;have hb0:(TrailNeutral.whole32 v && TrailNeutral.long (sl.take k) 66000 0 255)=true:=hask;rw [Bool.and_eq_true] at hb0;have hb:=zNP hb0.2;have v0:=w32 hb0.1;have st:=zV3 B.rel v0.1 hb.2;have hlen:i+1+1+k<=ns.length:=by
       have:=congrArg List.length hd2;rw [List.length_drop] at this;have:=(List.getElem?_eq_some_iff.mp hk).1;omega
     have ht:ns.drop (i+1+1+k)=t:=(by rw [a4,hd2,List.drop_drop]);rw [if_neg (by decide)];refine ⟨rfl,rfl,?_⟩;rw [if_neg (by decide)];refine ⟨rfl,?_⟩;rw [if_pos (by decide)];refine ⟨_,_,hcu,rfl,cu,dx,a,i,ns,v,rfl,hcu,hsq,hv,?_⟩;refine ⟨_,_,zB,rfl,cu,dx,a,i+1,k,ns,rfl,zB,zAw hsq hcu,hk,hlen,fun p np=>?_⟩;rw [<- hd2,z5];have np0:H p=none:=by
       by_cases z:p=cu
       . rw [z,zB] at np;cases np
       . rw [zF z] at np;exact np
     have hw1:=B.wat.off (o:=cuO A.za dx a (i+1+1+k)) hcu ncu;have np1:(upd H cu (cuO A.za dx a (i+1+1+k))) p=none:=by rw [zF (fun z:p=cu=>by rw [z,hcu] at np0;cases np0)];exact np0
     have s1:=zK (o:=.lst ((sl.take k).map V.int)) np1;refine ⟨x,p,m,v,row,sl.take k,rl,l,rfl,hw1.mono s1,by have:=B.rel.few;omega,QJ hw1.taken np1,fun e=>?_,fun e e1=>?_,fun e e1=>?_⟩
     . rw [if_pos e] at st;exact (qC hstep q ht (by rw [st];exact B.rel) (by rw [st];rfl)).mono s1
     . rw [if_neg (by rw [e];decide),if_neg (by rw [e1];decide)] at st;exact (qC hstep q ht (by rw [st];exact B.rel) (by rw [st];rfl)).mono s1
     . rw [if_neg (by rw [e];decide),if_pos e1] at st;exact (qC hstep q ht (by rw [st];exact B.rel.zYj e e1 hb.2) (by rw [st];rfl)).mono s1
   . refine hid fun Z_ z_=>?_;obtain ⟨_,k,sl,a1,a2,a3,a4⟩:=zF5 (n:=0) rfl hc;simp only [List.drop_zero,List.take_zero] at a1 a3;obtain ⟨v,hv,hd⟩:=drop_one (ns:=ns) (i:=i) (by rw [a1];simp);refine z_ ?_;clear z_;rw [a1] at hd;injection hd with hd1 hd2;subst hd1 a3;have hb:=zNP (show TrailNeutral.long (sl.take k) 66000 0 255=true from hask);have st:=zV4 (w:=s) (ts:=sl.take k);have hlen:i+1+k<=ns.length:=by
       have:=congrArg List.length hd2;rw [List.length_drop] at this;have:=(List.getElem?_eq_some_iff.mp hv).1;omega
     have ht:ns.drop (i+1+k)=t:=(by rw [a4,hd2,List.drop_drop]);rw [if_neg (by decide)];refine ⟨rfl,rfl,?_⟩;rw [if_neg (by decide)];refine ⟨rfl,?_⟩;rw [if_neg (by decide)];refine ⟨rfl,?_⟩;rw [if_pos (by decide)];refine ⟨_,_,hcu,rfl,cu,dx,a,i,k,ns,rfl,hcu,hsq,hv,hlen,fun p np=>?_⟩;rw [<- hd2];have hw1:=B.wat.off (o:=cuO A.za dx a (i+1+k)) hcu ncu;have np1:(upd H cu (cuO A.za dx a (i+1+k))) p=none:=by rw [zF (fun z:p=cu=>by rw [z,hcu] at np;cases np)];exact np
     have s1:=zK (o:=.lst ((sl.take k).map V.int)) np1;refine ⟨x,p,m,row,sl.take k,rl,l,rfl,hw1.mono s1,QJ hw1.taken np1,hb.2,by omega,fun e=>?_,fun e n he=>?_,fun e m' zGf rl' e1 e2 e3 e4 e5 e6=>?_⟩
     . rw [if_pos e] at st;exact (qC hstep q ht (by rw [st];exact B.rel) (by rw [st];rfl)).mono s1
     . rw [if_neg (by omega),he] at st;exact (qC hstep q ht (by rw [st];exact B.rel) (by rw [st];rfl)).mono s1
     . rw [if_neg (by omega),e1] at st;exact (qC hstep q ht (by rw [st];exact j8.zYk e2 e3 e4 e5 e6) (by rw [st];rfl)).mono s1
   . obtain ⟨a1,a2,a3⟩:=call_num (n:=0) rfl hc;simp only [List.take_zero,List.drop_zero] at a2 a3;subst a2;rw [if_neg (by decide)];refine ⟨rfl,rfl,?_⟩;rw [if_neg (by decide)];refine ⟨rfl,?_⟩;rw [if_neg (by decide)];refine ⟨rfl,?_⟩;rw [if_neg (by decide)];refine ⟨x,m,row,rl,l,rfl,B.wat,B.rel.mT,B.rel.zYL,by have:=B.rel.few;omega,B.rel.rlL,fun ns' pm srt=>?_⟩;have st:=zUA (w:=s);have e1:=B.rel.text pm srt;have e2:(zc m ++ row ++ [10] ++ ns'.flatMap fun c=>c :: 61 :: ((look rl c).getD [] ++ [10]))=zc m ++ row ++ [10] ++ qI rl ns':=rfl;rw [e2] at e1;have hby:∀ z∈zc m ++ row ++ [10] ++ qI rl ns',qS z:=zQy B.rel pm;rw [e1,List.length_map,zPR hby] at st;have hH:upd H cu (cuO A.za dx a i)=H:=by
       funext b;by_cases z:b=cu
       . rw [z,zB,hcu]
       . rw [zF z]
     have:=qC hstep q (j:=i) a3.symm (n:=((zc m ++ row ++ [10] ++ qI rl ns').length:Int)) (li:=[]) (tx:=zc m ++ row ++ [10] ++ qI rl ns') (by rw [st];exact B.rel) (by rw [st];rfl);rw [hH] at this;exact this
end
def zYq (K:Fg):List V->Hp->VK->Prop:=fun xs H Q=>∃ p ys,xs=[.ref p]/\(SqL K H p ys\/SqT K H p ys)/\Q (.int ys.length) H
def zZc (K:Fg)(ta:TE):TT:=fun Z H Q=>ta Z H fun x H'=>∃ k,zYT K x H' k/\Q k H'
def Pt.vs (a:Pt):List V:=[.int a.x0,.int a.x1,.int a.x2,.int a.x3]
theorem ze {K:Fg}{H H' : Hp}{a:Addr}{xs:List V}(h:SqT K H a xs)(s:zz H H'):SqT K H' a xs:=by
 rcases h with (h | ⟨o,h⟩) | h
 . exact .inl (.inl (s _ _ h))
 . exact .inl (.inr ⟨o,s _ _ h⟩)
 . exact .inr h
def Gives (H:Hp)(Q:VK)(r:Pt):Prop:=∀ t H',zz H H'->H' t=some (.tup r.vs)->Q (.ref t) H'
theorem Gives.mono {H H1:Hp}{Q:VK}{r:Pt}(h:Gives H Q r)(s:zz H H1):Gives H1 Q r:=fun t H' s' e=>h t H' (s.trans s') e
section
inductive zWJ (K:Fg)(vs:List V)(H:Hp)(Q:VK)(E:XK):Prop | m (p q:Addr)(a b:Pt)(_:vs=[.ref p,.ref q])(_:SqT K H p a.vs)(_:SqT K H q b.vs)(_:Gives H Q (a.add b))
theorem zFi (T:Txt K mg A):qM P w K mg base CX0 1 A.zNW A.zPz ["a","b"] (zWJ K):=by
 refine T.Jt.okc zWC fun vs H Q E h=>?_
 . obtain ⟨p,q,a,b,rfl,ha,hb,k⟩:=h;refine ⟨rfl,fun _ _ _ s hr=>⟨_,(zE (zN (zH6 (zA (z9 ZK (ixT (pv 0) zM) (ixT (pv 1) zM)) (zA (z9 ZK (ixT (pv 0) zM) (ixT (pv 1) zM)) (zA (z9 ZK (ixT (pv 0) zM) (ixT (pv 1) zM)) (zA (z9 ZK (ixT (pv 0) zM) (ixT (pv 1) zM)) zD))))))),?_⟩⟩;show zHD _ _ [some (.ref p),some (.ref q)] H;walk_at "ee";exact ⟨_,ha,_,rfl,_,hb,_,rfl,_,rfl,_,rfl,_,ha,_,rfl,_,hb,_,rfl,_,rfl,_,rfl,_,ha,_,rfl,_,hb,_,rfl,_,rfl,_,rfl,_,ha,_,rfl,_,hb,_,rfl,_,rfl,_,rfl,by show 4<=sizeLine;decide,fun t nt=>k t _ (zK nt) zB⟩
def Mb (a:Pt)(n:Int):Prop:=(-(2 ^ 64) < n/\n < 2 ^ 64)\/Bd 1000 a
theorem Mb.c0 {a:Pt}{n:Int}(h:Mb a n):zUj a.x0 n:=by
 rcases h with h | h
 . exact .inr h
 . unfold Bd at h;exact .inl ⟨by omega,by omega⟩
theorem Mb.c1 {a:Pt}{n:Int}(h:Mb a n):zUj a.x1 n:=by
 rcases h with h | h
 . exact .inr h
 . unfold Bd at h;exact .inl ⟨by omega,by omega⟩
theorem Mb.c2 {a:Pt}{n:Int}(h:Mb a n):zUj a.x2 n:=by
 rcases h with h | h
 . exact .inr h
 . unfold Bd at h;exact .inl ⟨by omega,by omega⟩
theorem Mb.c3 {a:Pt}{n:Int}(h:Mb a n):zUj a.x3 n:=by
 rcases h with h | h
 . exact .inr h
 . unfold Bd at h;exact .inl ⟨by omega,by omega⟩
inductive zOO (K:Fg)(vs:List V)(H:Hp)(Q:VK)(E:XK):Prop | m (p:Addr)(a:Pt)(n:Int)(_:vs=[.ref p,.int n])(_:SqT K H p a.vs)(_:Mb a n)(_:Gives H Q (a.mul n))
theorem zC7 (T:Txt K mg A):qM P w K mg base CX0 1 A.zCO A.zEz ["a","number"] (zOO K):=by
 refine T.jN.okc zOB fun vs H Q E h=>?_
 . obtain ⟨p,a,n,rfl,ha,hc,k⟩:=h;refine ⟨rfl,fun _ _ _ s hr=>⟨_,(zE (zN (zH6 (zA (z9 zDb (ixT (pv 0) zM) (pv 1)) (zA (z9 zDb (ixT (pv 0) zM) (pv 1)) (zA (z9 zDb (ixT (pv 0) zM) (pv 1)) (zA (z9 zDb (ixT (pv 0) zM) (pv 1)) zD))))))),?_⟩⟩;show zHD _ _ [some (.ref p),some (.int n)] H;walk_at "ee";exact ⟨_,ha,_,rfl,_,rfl,hc.c0,_,ha,_,rfl,_,rfl,hc.c1,_,ha,_,rfl,_,rfl,hc.c2,_,ha,_,rfl,_,rfl,hc.c3,by show 4<=sizeLine;decide,fun t nt=>k t _ (zK nt) zB⟩
inductive zUT (K:Fg)(vs:List V)(H:Hp)(Q:VK)(E:XK):Prop | m (p q:Addr)(a b:Pt)(_:vs=[.ref p,.ref q])(_:SqT K H p a.vs)(_:SqT K H q b.vs)(_:Gives H Q (a.sub b))
theorem zPr (T:Txt K mg A):qM P w K mg base CX0 2 A.zJG A.zL4 ["a","b"] (zUT K):=by
 refine T.zFj.okc zUM fun vs H Q E h=>?_
 . obtain ⟨p,q,a,b,rfl,ha,hb,k⟩:=h;refine ⟨rfl,fun _ _ _ s hr=>⟨_,(zE (zN (cA (zFi T) hr T.zGa T.Jt (bd2 T.Jt) (zA (pv 0) (zA (cA (zC7 T) hr T.zAg T.jN (bd2 T.jN) (zA (pv 1) (zA (zFA zAD zM) zD))) zD))))),?_⟩⟩;show zHD _ _ [some (.ref p),some (.ref q)] H;walk_at "ee";exact ⟨q,b,-1,rfl,hb,.inl ⟨by decide,by decide⟩,fun t H' s e=>⟨p,t,a,b.mul (-1),rfl,ze ha s,SqT.of e,k.mono s⟩⟩
def szP (m:Nat):Int:=if Trail.powers m=2 then 2 else 4
theorem zWK {m:Nat}(h:m∈Trail.ROUNDS):((m:Int),szP m)∈([(3,2),(4,2),(5,4),(6,2),(8,4),(10,4),(12,4)]:List (Int×Int)):=by rcases qN h with rfl | rfl | rfl | rfl | rfl | rfl | rfl <;> decide
theorem zTA {m:Nat}(h:m∈Trail.ROUNDS):((m:Int),(zF6 m).l)∈([(3,[-1,-1,0,0]),(4,[-1,0,0,0]),(5,[-1,-1,-1,-1]),(6,[-1,1,0,0]),(8,[-1,0,0,0]),(10,[-1,1,-1,1]),(12,[-1,0,1,0])]:RL):=by rcases qN h with rfl | rfl | rfl | rfl | rfl | rfl | rfl <;> decide
theorem zTB {m:Nat}(h:m∈Trail.ROUNDS):Bd 1000 (zF6 m):=by rw [zPY];rcases qN h with rfl | rfl | rfl | rfl | rfl | rfl | rfl <;> decide
inductive zQz (K:Fg)(vs:List V)(H:Hp)(Q:VK)(E:XK):Prop | m (p:Addr)(a:Pt)(m:Nat)(_:vs=[.ref p,.int m])(_:SqT K H p a.vs)(_:m∈Trail.ROUNDS)(_:Gives H Q (a.z m))
theorem zKl (T:Txt K mg A):qM P w K mg base CX0 2 A.zEW A.zGS ["a","turns"] (zQz K):=by
 refine T.zBB.okc zGy fun vs H Q E h=>?_
 . obtain ⟨p,a,m,rfl,ha,hm,k⟩:=h;refine ⟨rfl,fun _ _ _ s hr=>⟨_,(zC (sA 2 zGy.nd (zIH (Z1 rfl T.zOb) (pv 1) (fun _ _=>rfl))) (zC (sA 3 zGy.nd (z9 zRV (z9 zRV (zH6 (zA zM zD)) (zCb zUl (pv 0) zNe (zAi (z9 zFs (pv 2) zM)))) (zCb zUl (Z1 rfl T.zBf) (zAi (pv 2)) zNe))) (zE (zN (cA (zFi T) hr T.zGa T.Jt (bd2 T.Jt) (zA (pv 3) (zA (cA (zC7 T) hr T.zAg T.jN (bd2 T.jN) (zA (zIH (Z1 rfl T.zDZ) (pv 1) (fun _ _=>rfl)) (zA (ixT (pv 0) (z9 zFs (pv 2) zM)) zD))) zD))))))),?_⟩⟩;show Zv _ _ _ [some (.ref p),some (.int m),none,none] H;walk_at "ee";refine ⟨_,T.zOc _ _ (zWK hm),?_⟩;by_cases c:Trail.powers m=2
   . have e:szP m=2:=if_pos c;have ez:a.z m=Pt.add ⟨0,a.x0,0,0⟩ ((zF6 m).mul a.x1):=if_pos c;rw [ez] at k;rw [e];refine ⟨by show 1<=sizeLine;decide,fun p1 n1=>⟨_,rfl,_,ze ha (zK n1),by show ¬ (0=0/\1=4);omega,fun p2 n2=>⟨_,SqT.of (zK n2 _ _ zB),_,SqT.of zB,by simp,by show 1+1<=sizeLine;decide,fun z=>(by cases z),fun _ p3 n3=>⟨_,rfl,_,T.zAb _,by show ¬ (2=0/\4=4);omega,fun p4 n4=>⟨_,SqT.of (zK n4 _ _ zB),_,SqT.of zB,by simp,by show 2+2<=sizeLine;decide,fun z=>(by cases z),fun _ p5 n5=>?_⟩⟩⟩⟩⟩;obtain ⟨b,kg,hb⟩:=T.zAc _ _ (zTA hm);have s5:=(((zK (o:=.tup [V.int 0]) n1).trans (zK (o:=.tup (zJU a.vs none (some (2 - 1)))) n2)).trans (zK (o:=.tup ([V.int 0] ++ zJU a.vs none (some (2 - 1)))) n3)).trans (zK (o:=.tup (zJU [V.int 0,V.int 0,V.int 0,V.int 0] (some 2) none)) n4);have s6:=s5.trans (zK (o:=.tup ([V.int 0] ++ zJU a.vs none (some (2 - 1)) ++ zJU [V.int 0,V.int 0,V.int 0,V.int 0] (some 2) none)) n5);exact ⟨_,kg,_,rfl,_,ze ha s6,_,rfl,b,zF6 m,a.x1,rfl,hb _,.inr (zTB hm),fun t H' s e=>⟨p5,t,⟨0,a.x0,0,0⟩,_,rfl,SqT.of (s _ _ zB),SqT.of e,k.mono (s6.trans s)⟩⟩
   . have e:szP m=4:=if_neg c;have ez:a.z m=Pt.add ⟨0,a.x0,a.x1,a.x2⟩ ((zF6 m).mul a.x3):=if_neg c;rw [ez] at k;rw [e];refine ⟨by show 1<=sizeLine;decide,fun p1 n1=>⟨_,rfl,_,ze ha (zK n1),by show ¬ (0=0/\3=4);omega,fun p2 n2=>⟨_,SqT.of (zK n2 _ _ zB),_,SqT.of zB,by simp,by show 1+3<=sizeLine;decide,fun z=>(by cases z),fun _ p3 n3=>⟨_,rfl,_,T.zAb _,by show ¬ (4=0/\4=4);omega,fun p4 n4=>⟨_,SqT.of (zK n4 _ _ zB),_,SqT.of zB,by simp,by show 4+0<=sizeLine;decide,fun _=>?_,fun z=>absurd rfl z⟩⟩⟩⟩⟩;obtain ⟨b,kg,hb⟩:=T.zAc _ _ (zTA hm);have s5:=(((zK (o:=.tup [V.int 0]) n1).trans (zK (o:=.tup (zJU a.vs none (some (4 - 1)))) n2)).trans (zK (o:=.tup ([V.int 0] ++ zJU a.vs none (some (4 - 1)))) n3)).trans (zK (o:=.tup (zJU [V.int 0,V.int 0,V.int 0,V.int 0] (some 4) none)) n4);exact ⟨_,kg,_,rfl,_,ze ha s5,_,rfl,b,zF6 m,a.x3,rfl,hb _,.inr (zTB hm),fun t H' s e=>⟨p3,t,⟨0,a.x0,a.x1,a.x2⟩,_,rfl,SqT.of (s _ _ (zK n4 _ _ zB)),SqT.of e,k.mono (s5.trans s)⟩⟩
end
theorem qx {α β:Type}{F:α->β->Prop}:∀ {vs:List α}{l:List β}{i:Nat}{a:β},Paired F vs l->l[i]? = some a->∃ v,vs[i]? = some v/\F v a
 | _,_,_,_,.nil,e=>by simp at e
 | _,_,0,_,.cons h _,e=>by simp at e;subst e;exact ⟨_,rfl,h⟩
 | _,_,i+1,a,.cons _ t,e=>by obtain ⟨v,h1,h2⟩:=qx (i:=i) t (by simpa using e);exact ⟨v,by simpa using h1,h2⟩
def zTC (K:Fg)(H:Hp)(v:V)(a:Pt):Prop:=∃ r,v=.ref r/\SqT K H r a.vs
theorem zTC.mono {K:Fg}{H H' : Hp}{v:V}{a:Pt}(h:zTC K H v a)(s:zz H H'):zTC K H' v a:=let ⟨r,e,h⟩:=h;⟨r,e,ze h s⟩
def Pts (K:Fg)(H:Hp)(p:Addr)(l:List Pt):Prop:=∃ vs,H p=some (.lst vs)/\Paired (zTC K H) vs l
theorem Pts.mono {K:Fg}{H H' : Hp}{p:Addr}{l:List Pt}(h:Pts K H p l)(s:zz H H'):Pts K H' p l:=let ⟨vs,e,h⟩:=h;⟨vs,s _ _ e,Paired.zFH h fun _ _ z=>z.mono s⟩
theorem QK {K:Fg}{H:Hp}{a p:Addr}{xs:List V}{o u:HO}(h:SqT K H a xs)(hp:H p=some u)(hu:∀ ys,u≠.tup ys/\∀ q,u≠.frz q (.tup ys)):SqT K (upd H p o) a xs:=by
 rcases h with (h | ⟨q,h⟩) | h
 . exact .inl (.inl (by rw [zF (fun z:a=p=>by rw [z,hp] at h;exact (hu xs).1 (Option.some.inj h))];exact h))
 . exact .inl (.inr ⟨q,by rw [zF (fun z:a=p=>by rw [z,hp] at h;exact (hu xs).2 q (Option.some.inj h))];exact h⟩)
 . exact .inr h
theorem zTC.off {K:Fg}{H:Hp}{v:V}{a:Pt}{p:Addr}{o u:HO}(h:zTC K H v a)(hp:H p=some u)(hu:∀ ys,u≠.tup ys/\∀ q,u≠.frz q (.tup ys)):zTC K (upd H p o) v a:=let ⟨r,e,h⟩:=h;⟨r,e,QK h hp hu⟩
theorem zEJ {xs ys:List V}:HO.lst xs≠.tup ys/\∀ q,HO.lst xs≠.frz q (.tup ys):=⟨fun z=>(by cases z),fun q z=>(by cases z)⟩
theorem zIx {C dx:Addr}{fs:List (Str×V)}{ys:List V}:HO.ins C dx fs≠.tup ys/\∀ q,HO.ins C dx fs≠.frz q (.tup ys):=⟨fun z=>(by cases z),fun q z=>(by cases z)⟩
theorem zK1 {vs:List V}{v:V}{j:Nat}(hl:vs.length=j+1)(h:vs[j]? = some v):atI vs (-1)=some v:=by unfold atI ixN;rw [if_neg (by decide),if_pos (by omega),hl];show vs[((-1:Int)+((j+1:Nat):Int)).toNat]? = some v;rw [show ((-1:Int)+((j+1:Nat):Int)).toNat=j by omega];exact h
abbrev pws (m j:Nat):List Pt:=(List.range j).map (pw m)
theorem zOP (m j:Nat):(pws m j).length=j:=by rw [List.length_map,List.length_range]
theorem zNQ {m j i:Nat}(h:i < j):(pws m j)[i]? = some (pw m i):=by rw [List.getElem?_map,List.getElem?_range h];rfl
theorem zUU (m j:Nat):pws m (j+1)=pws m j ++ [pw m j]:=by unfold pws;rw [List.range_succ,List.map_append];rfl
section
inductive zTD (K:Fg)(vs:List V)(H:Hp)(Q:VK)(E:XK):Prop | m (m:Nat)(_:vs=[.int m])(_:m∈Trail.ROUNDS)(_:∀ p H',zz H H'->H p=none->Pts K H' p (pws m m)->Q (.ref p) H')
theorem zB0 (T:Txt K mg A):qM P w K mg base CX0 3 A.QR A.zAJ ["turns"] (zTD K):=by
 refine T.qW.okc zFI fun vs H Q E h=>?_
 . obtain ⟨m,rfl,hm,k⟩:=h;refine ⟨rfl,fun _ _ _ s hr=>⟨_,(zC (sA 1 zFI.nd (qY (zA (Z1 rfl T.zWc) zD))) (zC (zEl PassesOwn.never (zS zFB (zd zQ (by rfl) T.QB PySem.boot_len (zA (pv 1) zD)) (pv 0) (zX _)) (zE (z7 (zFv PySem.F.plainAttrs_list PySem.F.slot_list_append PySem.F.type_list_append zAj (pv 1) (zA (cA (zKl T) hr T.zGb T.zBB (bd2 T.zBB) (zA (ixL (pv 1) (zFA zAD zM)) (zA (pv 0) zD))) zD))))) (zE (zN (pv 1))))),?_⟩⟩;show Zv _ _ _ [some (.int m),none] H;walk_at "ee";have m3:=zSY hm;have m12:m<=12:=by rcases qN hm with rfl | rfl | rfl | rfl | rfl | rfl | rfl <;> decide
   have big:=sizeLine_eq;refine ⟨by show 1<=sizeLine;omega,fun p np=>⟨fun n Z H'=>∃ j,n=m - j/\1<=j/\j<=m/\Z=[some (.int m),some (.ref p)]/\zz H H'/\Pts K H' p (pws m j),⟨m - 1,1,rfl,Nat.le_refl _,by omega,rfl,zK np,[.ref A.zTJ],zB,.cons ⟨_,rfl,T.zWd _⟩ .nil⟩,?_⟩⟩;rintro n Z H' ⟨j,rfl,j1,j2,rfl,sm,vs,hv,hp⟩;have hl:vs.length=j:=by rw [Paired.length hp,zOP]
   walk_at "ee";refine ⟨_,.inl (SqL.of hv),?_⟩;rw [hl];by_cases c:j < m
   . rw [if_pos (decide_eq_true (by omega))];refine hid fun Z_ z_=>?_;obtain ⟨i,rfl⟩ : ∃ i,j=i+1:=⟨j - 1,by omega⟩;obtain ⟨v,e1,r,rfl,e2⟩:=qx hp (zNQ (show i < i+1 by omega));refine z_ ?_;clear z_;refine ⟨fun Z' H2=>Z' = [some (.int m),some (.ref p)]/\zz H H2/\Pts K H2 p (pws m (i+2)),fun Z' H2 h=>⟨m - (i+2),by omega,i+2,rfl,by omega,by omega,h⟩,?_⟩;refine ⟨.inl ⟨rfl,_,SqL.of hv⟩,_,SqL.of hv,_,zK1 hl e1,r,pw m i,m,rfl,e2,hm,fun t H2 s2 ht=>⟨_,s2 _ _ hv,by omega,rfl,?_,_,zB,?_⟩⟩
     . exact jY (sm.trans s2) np
     . rw [zUU];refine Paired.snoc (Paired.zFH hp fun _ _ z=>(z.mono s2).off (s2 _ _ hv) fun _=>zEJ) ⟨t,rfl,QK (SqT.of ht) (s2 _ _ hv) fun _=>zEJ⟩
   . rw [if_neg (by simp;omega)];have:j=m:=by omega
     subst this;exact k p H' sm np ⟨vs,hv,hp⟩
def zHR (m:Nat)(b:Pt):List Int->Pt×Pt:=fun l=>l.foldl (fun (x:Pt×Pt) n=>(x.1.add (x.2.mul n),x.2.z m)) (Pt.zero,b)
inductive zUV (K:Fg)(vs:List V)(H:Hp)(Q:VK)(E:XK):Prop | m (p q:Addr)(a b:Pt)(m:Nat)(_:vs=[.ref p,.ref q,.int m])(_:SqT K H p a.vs)(_:SqT K H q b.vs)(_:m∈Trail.ROUNDS)(_:Bd 1000000000000 a)(_:Gives H Q (Jb m a b))
theorem zPs (T:Txt K mg A):qM P w K mg base CX0 3 A.zJH A.zL5 ["a","b","turns"] (zUV K):=by
 refine T.zFk.okc zGB fun vs H Q E h=>?_
 . obtain ⟨p,q,a,b,m,rfl,ha,hb,hm,bd,k⟩:=h;refine ⟨rfl,fun _ _ _ s hr=>⟨_,(zC (sA 3 zGB.nd (Z1 rfl T.zBf)) (zC (JZ PassesOwn.never rfl (zUi (pv 0)) (z8 (i:=4) zGB.nd rfl (Or.inl rfl)) (zC (sA 3 zGB.nd (cA (zFi T) hr T.zGa T.Jt (bd2 T.Jt) (zA (pv 3) (zA (cA (zC7 T) hr T.zAg T.jN (bd2 T.jN) (zA (pv 1) (zA (pv 4) zD))) zD)))) (zE (sA 1 zGB.nd (cA (zKl T) hr T.zGb T.zBB (bd2 T.zBB) (zA (pv 1) (zA (pv 2) zD))))))) (zE (zN (pv 3))))),?_⟩⟩;show Zv _ _ _ [some (.ref p),some (.ref q),some (.int m),none,none] H;walk_at "ee";refine ⟨_,rfl,p,rfl,⟨_,ha⟩,zRJ (xs:=a.vs) (fun i Z H'=>∃ (v4:Option V)(x y:Addr),Z=[some (.ref p),some (.ref y),some (.int m),some (.ref x),v4]/\zz H H'/\SqT K H' x (zHR m b (a.l.take i)).1.vs/\SqT K H' y (zHR m b (a.l.take i)).2.vs/\(i=4->H' x=some (.tup (zHR m b (a.l.take i)).1.vs))) ?_ ?_ ?_ ?_⟩
   . exact ⟨none,A.zAV,q,rfl,fun _ _ e=>e,T.zAb _,hb,fun z=>(by cases z)⟩
   . rintro i Z H' hi ⟨v4,x,y,rfl,sm,_⟩;exact ze ha sm
   . rintro i x Z H' hx ⟨v4,px,py,rfl,sm,h1,h2,_⟩;obtain ⟨c,hc,rfl⟩:=int_at (ns:=a.l) hx;have et:a.l.take (i+1)=a.l.take i ++ [c]:=by rw [List.take_succ,hc];rfl
     have es:zHR m b (a.l.take (i+1))=((zHR m b (a.l.take i)).1.add ((zHR m b (a.l.take i)).2.mul c),(zHR m b (a.l.take i)).2.z m):=by rw [et];unfold zHR;rw [List.foldl_append];rfl
     have hcb : -(2 ^ 64) < c/\c < 2 ^ 64:=by have:=List.mem_of_getElem? hc;unfold Bd at bd;simp only [Pt.l,List.mem_cons,List.not_mem_nil,or_false] at this;rcases this with rfl | rfl | rfl | rfl <;> omega
     walk_at "ee";refine ⟨py,_,c,rfl,h2,.inl hcb,fun t1 H1 s1 e1=>⟨px,t1,_,_,rfl,ze h1 s1,SqT.of e1,fun t2 H2 s2 e2=>?_⟩⟩;refine ⟨py,_,m,rfl,ze h2 (s1.trans s2),hm,fun t3 H3 s3 e3=>?_⟩;rw [es];exact ⟨_,t2,t3,⟨rfl,rfl,rfl⟩,sm.trans ((s1.trans s2).trans s3),SqT.of (s3 _ _ e2),SqT.of e3,fun _=>s3 _ _ e2⟩
   . rintro Z H' ⟨v4,x,y,rfl,sm,_,_,h⟩;walk_at "ee";exact k x H' sm (h rfl)
end
section
def zGH (m:Nat)(l:List Int):Pt:=(l.zipIdx).foldl (fun (x:Pt)(n:Int×Nat)=>x.add ((pw m ((m - n.2) % m)).mul n.1)) Pt.zero
theorem zOQ (m:Nat)(l:List Int)(c:Int):zGH m (l ++ [c])=(zGH m l).add ((pw m ((m - l.length) % m)).mul c):=by unfold zGH;rw [List.zipIdx_append,List.foldl_append,Nat.zero_add];rfl
theorem zQ0 {m:Nat}(h:m∈Trail.ROUNDS)(a:Pt):zGH m a.l=zBM m a:=by unfold zGH zBM;rcases qN h with rfl | rfl | rfl | rfl | rfl | rfl | rfl <;> simp [Pt.l,List.zipIdx_cons]
theorem zWL {m i:Nat}(h:0 < m)(hi:i<=m):(-(i:Int)) % (m:Int)=(((m - i) % m:Nat):Int):=by have e:(-(i:Int))=((m - i:Nat):Int) - (m:Int):=(by omega);rw [e,Int.sub_emod_right,Int.natCast_emod]
inductive zUW (K:Fg)(vs:List V)(H:Hp)(Q:VK)(E:XK):Prop | m (p:Addr)(a:Pt)(m:Nat)(_:vs=[.ref p,.int m])(_:SqT K H p a.vs)(_:m∈Trail.ROUNDS)(_:Gives H Q (zBM m a))
theorem zPt (T:Txt K mg A):qM P w K mg base CX0 4 A.zJI A.zL6 ["a","turns"] (zUW K):=by
 refine T.zFl.okc zEw fun vs H Q E h=>?_
 . obtain ⟨p,a,m,rfl,ha,hm,k⟩:=h;refine ⟨rfl,fun _ _ _ s hr=>⟨_,(zC (sA 2 zEw.nd (cA (zB0 T) hr T.Ql T.qW (bd1 T.qW) (zA (pv 1) zD))) (zC (sA 3 zEw.nd (Z1 rfl T.zBf)) (zC (JZ PassesOwn.never rfl (zT2 rfl T.j7 (zA (pv 0) zD)) (zJ8 rfl (Zk (z8 (i:=4) zEw.nd rfl (Or.inl rfl)) (Zk (z8 (i:=5) zEw.nd rfl (Or.inl rfl)) zGg))) (zE (sA 3 zEw.nd (cA (zFi T) hr T.zGa T.Jt (bd2 T.Jt) (zA (pv 3) (zA (cA (zC7 T) hr T.zAg T.jN (bd2 T.jN) (zA (ixL (pv 2) (z9 zOr (zFA zAD (pv 4)) (pv 1))) (zA (pv 5) zD))) zD)))))) (zE (zN (pv 3)))))),?_⟩⟩;show Zv _ _ _ [some (.ref p),some (.int m),none,none,none,none] H;walk_at "ee";have m3:=zSY hm;refine ⟨m,rfl,hm,fun pp H1 s1 _ ⟨vs,hv,hp⟩=>?_⟩;have hl:vs.length=m:=(by rw [Paired.length hp,zOP]);refine ⟨_,rfl,p,_,rfl,ze ha s1,zR5 (xs:=a.vs) (fun i Z H'=>∃ (v4 v5:Option V)(x:Addr),Z=[some (.ref p),some (.int m),some (.ref pp),some (.ref x),v4,v5]/\zz H1 H'/\SqT K H' x (zGH m (a.l.take i)).vs/\(i=4->H' x=some (.tup (zGH m (a.l.take i)).vs))) ?_ ?_ ?_ ?_⟩
   . exact ⟨none,none,A.zAV,rfl,fun _ _ e=>e,T.zAb _,fun z=>(by cases z)⟩
   . rintro i Z H' hi ⟨v4,v5,x,rfl,sm,_⟩;exact ze ha (s1.trans sm)
   . rintro i x Z H' tt hx ⟨v4,v5,px,rfl,sm,h1,_⟩ nt;obtain ⟨c,hc,rfl⟩:=int_at (ns:=a.l) hx;have hi:i < 4:=(List.getElem?_eq_some_iff.mp hc).1;have et:a.l.take (i+1)=a.l.take i ++ [c]:=by rw [List.take_succ,hc];rfl
     have el:(a.l.take i).length=i:=by rw [List.length_take];exact Nat.min_eq_left (Nat.le_of_lt hi)
     have es:zGH m (a.l.take (i+1))=(zGH m (a.l.take i)).add ((pw m ((m - i) % m)).mul c):=(by rw [et,zOQ,el]);have s2:=zK (o:=.tup [.int (0+(i:Nat)),V.int c]) nt;walk_at "ee";refine hid fun Z_ z_=>?_;obtain ⟨v,e1,r,rfl,e2⟩:=qx hp (zNQ (m:=m) (show (m - i) % m < m from Nat.mod_lt _ (by omega)));refine z_ ?_;clear z_;have at1:atI vs (-(0+(i:Int)) % (m:Int))=some (.ref r):=by rw [Int.zero_add,zWL (by omega) (by omega)];exact Zw e1
     refine ⟨_,SqT.of zB,rfl,_,_,rfl,_,_,rfl,rfl,_,rfl,by omega,_,SqL.of (s2 _ _ (sm _ _ hv)),_,at1,r,_,c,rfl,ze (ze e2 sm) s2,.inr ((zSf hm _).mono (by decide)),fun t1 H2 s3 q1=>⟨px,t1,_,_,rfl,ze h1 (s2.trans s3),SqT.of q1,fun t2 H3 s4 q2=>?_⟩⟩;rw [es];exact ⟨_,_,t2,⟨rfl,rfl,rfl⟩,sm.trans ((s2.trans s3).trans s4),SqT.of q2,fun _=>q2⟩
   . rintro Z H' ⟨v4,v5,x,rfl,sm,_,h⟩;walk_at "ee";have:=h rfl;rw [show a.l.take a.vs.length=a.l from rfl,zQ0 hm] at this;exact k x H' (s1.trans sm) this
inductive zQ1 (K:Fg)(vs:List V)(H:Hp)(Q:VK)(E:XK):Prop | m (p q:Addr)(a b:Pt)(m:Nat)(_:vs=[.ref p,.ref q,.int m])(_:SqT K H p a.vs)(_:SqT K H q b.vs)(_:m∈Trail.ROUNDS)(_:Bd 100000000000 a)(_:Gives H Q (jU m a b))
theorem zUX {m:Nat}(h:m∈Trail.ROUNDS){a:Pt}(b:Bd 100000000000 a):Bd 1000000000000 (zBM m a):=by
 have pb:∀ k,Bd 1 (pw m k):=zSf h;have mb:∀ (k:Nat)(n:Int),-100000000000<=n->n<=100000000000->Bd 100000000000 ((pw m k).mul n):=fun k n h1 h2=>by
   have:=pb k;have f:∀ x:Int,-1<=x->x<=1->-100000000000<=x * n/\x * n<=100000000000:=fun x q1 q2=>by have:x = -1\/x=0\/x=1:=(by omega);rcases this with rfl | rfl | rfl <;> omega
   unfold Bd Pt.mul at *;exact ⟨f _ this.1.1 this.1.2,f _ this.2.1.1 this.2.1.2,f _ this.2.2.1.1 this.2.2.1.2,f _ this.2.2.2.1 this.2.2.2.2⟩
 have z:Bd 0 Pt.zero:=by unfold Bd Pt.zero;simp
 obtain ⟨b0,b1,b2,b3⟩:=b;exact ((((z.add (mb 0 _ b0.1 b0.2)).add (mb (m - 1) _ b1.1 b1.2)).add (mb (m - 2) _ b2.1 b2.2)).add (mb (m - 3) _ b3.1 b3.2)).mono (by decide)
theorem zQ2 (T:Txt K mg A):qM P w K mg base CX0 5 A.zEX A.zGT ["a","b","turns"] (zQ1 K):=by
 refine T.zEc.okc zQk fun vs H Q E h=>?_
 . obtain ⟨p,q,a,b,m,rfl,ha,hb,hm,bd,k⟩:=h;refine ⟨rfl,fun _ _ _ s hr=>⟨_,(zE (zN (cA (zPr T) hr T.zL8 T.zFj (bd2 T.zFj) (zA (cA (zPs T) hr T.zL9 T.zFk (bd3 T.zFk) (zA (cA (zPt T) hr T.zMA T.zFl (bd2 T.zFl) (zA (pv 0) (zA (pv 2) zD))) (zA (pv 1) (zA (pv 2) zD)))) (zA (cA (zPs T) hr T.zL9 T.zFk (bd3 T.zFk) (zA (pv 0) (zA (cA (zPt T) hr T.zMA T.zFl (bd2 T.zFl) (zA (pv 1) (zA (pv 2) zD))) (zA (pv 2) zD)))) zD))))),?_⟩⟩;show zHD _ _ [some (.ref p),some (.ref q),some (.int m)] H;walk_at "ee";refine ⟨p,a,m,rfl,ha,hm,fun t1 H1 s1 e1=>⟨t1,q,_,b,m,rfl,SqT.of e1,ze hb s1,hm,zUX hm bd,fun t2 H2 s2 e2=>?_⟩⟩;refine ⟨q,b,m,rfl,ze hb (s1.trans s2),hm,fun t3 H3 s3 e3=>⟨p,t3,a,_,m,rfl,ze ha ((s1.trans s2).trans s3),SqT.of e3,hm,bd.mono (by decide),fun t4 H4 s4 e4=>?_⟩⟩;exact ⟨t2,t4,_,_,rfl,SqT.of (s4 _ _ (s3 _ _ e2)),SqT.of e4,k.mono (((s1.trans s2).trans s3).trans s4)⟩
end
abbrev zQ3 (mv td pl kp:Addr)(t st lt:Nat):List (Str×V):=[("moves",.ref mv),("turnings",.ref td),("place",.ref pl),("turn",.int (t:Nat)),("kept",.ref kp),("steps",.int (st:Nat)),("letters",.int (lt:Nat))]
def tdK (m:Nat):List (Key×V):=zKH [] [(Sum.inl 43,.int 1),(Sum.inl 45,.int (-1)),(Sum.inl 124,.int ((m:Int) / 2))]
def zNR (K:Fg)(H:Hp)(v:V)(x:Pt×Nat):Prop:=∃ t r,v=.ref t/\SqT K H t [.ref r,.int (x.2:Nat)]/\SqT K H r x.1.vs
structure jo (K:Fg)(A:Ad)(H:Hp)(p kp mv td:Addr)(m:Nat)(s:QE):Prop where
 mk ::
 at_:∃ dx pl vs,H p=some (.ins A.Q5 dx (zQ3 mv td pl kp s.turn s.drawn s.letters))/\Pts K H mv (pws m m)/\H td=some (.dK (tdK m))/\SqT K H pl s.pos.vs/\H kp=some (.lst vs)/\Paired (zNR K H) vs s.kept.reverse
 ne:kp≠mv
def Fr (p kp:Addr)(H H' : Hp):Prop:=∀ b o,b≠p->b≠kp->H b=some o->H' b=some o
theorem Fr.trans {p kp:Addr}{H H1 H2:Hp}(a:Fr p kp H H1)(b:Fr p kp H1 H2):Fr p kp H H2:=fun c o h1 h2 e=>b c o h1 h2 (a c o h1 h2 e)
theorem Fr.of {p kp:Addr}{H H' : Hp}(s:zz H H'):Fr p kp H H':=fun b o _ _ e=>s b o e
section
variable {K:Fg}{A:Ad}{H H' : Hp}{p kp mv td:Addr}{m:Nat}{s:QE}
theorem zNR.move {v:V}{x:Pt×Nat}(h:zNR K H v x)(k:∀ a xs,SqT K H a xs->SqT K H' a xs):zNR K H' v x:=let ⟨t,r,e,h1,h2⟩:=h;⟨t,r,e,k _ _ h1,k _ _ h2⟩
theorem zTC.move {v:V}{x:Pt}(h:zTC K H v x)(k:∀ a xs,SqT K H a xs->SqT K H' a xs):zTC K H' v x:=let ⟨t,e,h1⟩:=h;⟨t,e,k _ _ h1⟩
theorem jo.move (h:jo K A H p kp mv td m s)(k:∀ a xs,SqT K H a xs->SqT K H' a xs)(hp:∀ o,H p=some o->H' p=some o)(hk:∀ o,H kp=some o->H' kp=some o)(hm:∀ o,H mv=some o->H' mv=some o)(ht:∀ o,H td=some o->H' td=some o):jo K A H' p kp mv td m s:=by obtain ⟨⟨dx,pl,vs,h1,⟨ws,h2,h2'⟩,h3,h4,h5,h6⟩,ne⟩:=h;exact ⟨⟨dx,pl,vs,hp _ h1,⟨ws,hm _ h2,Paired.zFH h2' fun _ _ z=>z.move k⟩,ht _ h3,k _ _ h4,hk _ h5,Paired.zFH h6 fun _ _ z=>z.move k⟩,ne⟩
theorem jo.mono (h:jo K A H p kp mv td m s)(sm:zz H H'):jo K A H' p kp mv td m s:=h.move (fun _ _ z=>ze z sm) (sm _) (sm _) (sm _) (sm _)
theorem jo.off (h:jo K A H p kp mv td m s){q:Addr}{u o:HO}(hq:H q=some u)(hu:∀ ys,u≠.tup ys/\∀ z,u≠.frz z (.tup ys))(n1:q≠p)(n2:q≠kp)(n3:q≠mv)(n4:q≠td):jo K A (upd H q o) p kp mv td m s :=
 h.move (fun _ _ z=>QK z hq hu) (fun _ e=>by rw [zF (Ne.symm n1)];exact e) (fun _ e=>by rw [zF (Ne.symm n2)];exact e) (fun _ e=>by rw [zF (Ne.symm n3)];exact e) (fun _ e=>by rw [zF (Ne.symm n4)];exact e)
theorem zNS {a:Addr}{xs:List V}(h:jo K A H p kp mv td m s)(f:Fr p kp H H')(k:SqT K H a xs):SqT K H' a xs:=by
 obtain ⟨⟨dx,pl,vs,h1,_,_,_,h5,_⟩,_⟩:=h;rcases k with (k | ⟨o,k⟩) | k
 . exact .inl (.inl (f _ _ (fun z=>by rw [z,h1] at k;cases k) (fun z=>by rw [z,h5] at k;cases k) k))
 . exact .inl (.inr ⟨o,f _ _ (fun z=>by rw [z,h1] at k;cases k) (fun z=>by rw [z,h5] at k;cases k) k⟩)
 . exact .inr k
end
theorem zWM {K:Fg}{H H' : Hp}{x a:Addr}{u:HO}{xs:List V}(hx:H x=some u)(hu:∀ ys,u≠.tup ys/\∀ z,u≠.frz z (.tup ys))(k:∀ b o,b≠x->H b=some o->H' b=some o)(h:SqT K H a xs):SqT K H' a xs:=by
 rcases h with (h | ⟨o,h⟩) | h
 . exact .inl (.inl (k _ _ (fun z=>by rw [z,hx] at h;exact (hu xs).1 (Option.some.inj h)) h))
 . exact .inl (.inr ⟨o,k _ _ (fun z=>by rw [z,hx] at h;exact (hu xs).2 o (Option.some.inj h)) h⟩)
 . exact .inr h
section
inductive zIy (K:Fg)(A:Ad)(vs:List V)(H:Hp)(Q:VK)(E:XK):Prop | m (x dx:Addr)(m:Nat)(_:vs=[.ref x,.int m])(_:H x=some (.ins A.Q5 dx []))(_:m∈Trail.ROUNDS)(_:∀ kp mv td H',(∀ b o,b≠x->H b=some o->H' b=some o)->H kp=none->H mv=none->H td=none->jo K A H' x kp mv td m ZG->Q .non H')
theorem zAy (T:Txt K mg A):qM P w K mg base CX0 4 A.zCP A.zE0 ["self","turns"] (zIy K A):=by
 refine T.Z9.okc zOC fun vs H Q E h=>?_
 . obtain ⟨x,dx,m,rfl,hx,hm,k⟩:=h;refine ⟨rfl,fun _ _ _ s hr=>⟨_,(zC (jT (pv 0) (cA (zB0 T) hr T.Ql T.qW (bd1 T.qW) (zA (pv 1) zD)) rfl) (zC (jT (pv 0) (zVh (zK9 (zb rfl T.zFp) zM (zK9 (zb rfl T.zFq) (zFA zAD zM) (zK9 (zb rfl T.zBe) (z9 zVX (pv 1) zM) zVg))) rfl rfl (by simp) (by decide)) rfl) (zC (jT (pv 0) (Z1 rfl T.zBf) rfl) (zC (jT (pv 0) zM rfl) (zC (jT (pv 0) (qY zD) rfl) (zC (jT (pv 0) zM rfl) (zE (jT (pv 0) zM rfl)))))))),?_⟩⟩;show Zv _ _ _ [some (.ref x),some (.int m)] H;walk_at "ee";refine ⟨m,rfl,hm,fun mv H1 s1 nmv hmv=>?_⟩;refine ⟨_,_,_,s1 _ _ hx,T.qK,T.JA,by show 0 < 1000;omega,fun td ntd=>?_⟩;have h1x:=s1 _ _ hx;have tdx:td≠x:=fun z=>by rw [z,zB] at ntd;cases ntd
   have ntd1:H1 td=none:=by rw [zF tdx] at ntd;exact ntd
   obtain ⟨mvs,hmv,hmp⟩:=hmv;have mvx:mv≠x:=fun z=>by rw [z,h1x] at hmv;cases hmv
   have mvt:mv≠td:=fun z=>by rw [z,ntd1] at hmv;cases hmv
   refine ⟨⟨by decide,by decide⟩,zB,[(Sum.inl 43,.int 1),(Sum.inl 45,.int (-1)),(Sum.inl 124,.int ((m:Int) / 2))],rfl,by show 3<=15;decide,A.Q5,dx,[("moves",.ref mv)],by simp [upd,Ne.symm tdx];rfl,T.qK,T.JY,by show 1 < 1000;omega,_,_,_,zB,T.qK,T.zt,by show 2 < 1000;omega,_,_,_,zB,T.qK,T.jQ,by show 3 < 1000;omega,Nat.zero_le _,fun kp nkp=>?_⟩;have kpx:kp≠x:=fun z=>by rw [z,zB] at nkp;cases nkp
   have kpt:kp≠td:=fun z=>by rw [z] at nkp;simp [upd,tdx] at nkp
   have nkp1:H1 kp=none:=(by simpa [upd,kpx,kpt] using nkp);have mvk:kp≠mv:=fun z=>by rw [z,hmv] at nkp1;cases nkp1
   refine ⟨_,_,_,by rw [zF (Ne.symm kpx)];exact zB,T.qK,T.zAh,by show 4 < 1000;omega,_,_,_,zB,T.qK,T.JB,by show 5 < 1000;omega,_,_,_,zB,T.qK,T.Qz,by show 6 < 1000;omega,?_⟩;refine k kp mv td _ (fun b o hb e=>?_) (s1.free nkp1) nmv (s1.free ntd1) ⟨⟨dx,A.zAV,[],zB,⟨mvs,by simp [upd,mvx,mvt,Ne.symm mvk];exact hmv,Paired.zFH hmp fun _ _ z=>z.move fun a xs q=>zWM h1x (fun _=>zIx) (fun b o hb e=>?_) q⟩,by simp [upd,tdx,Ne.symm kpt];rfl,T.zAb _,by simp [upd,kpx,kpt],.nil⟩,mvk⟩
   . have e1:=s1 _ _ e;have b1:b≠td:=fun z=>by rw [z,ntd1] at e1;cases e1
     have b2:b≠kp:=fun z=>by rw [z,nkp1] at e1;cases e1
     simp [upd,hb,b1,b2];exact e1
   . have b1:b≠td:=fun z=>by rw [z,ntd1] at e;cases e
     have b2:b≠kp:=fun z=>by rw [z,nkp1] at e;cases e
     simp [upd,hb,b1,b2];exact e
end
section
theorem zIz {p kp:Addr}{H:Hp}{o:HO}:Fr p kp H (upd H p o):=fun b u n1 _ e=>by rw [zF n1];exact e
theorem zX2 {p kp:Addr}{H:Hp}{o:HO}:Fr p kp H (upd H kp o):=fun b u _ n2 e=>by rw [zF n2];exact e
theorem jo.set {H:Hp}{p kp mv td pl dx:Addr}{m:Nat}{s s' : QE}(h:jo K A H p kp mv td m s)(hpl:SqT K H pl s'.pos.vs)(hk:s'.kept=s.kept) : jo K A (upd H p (.ins A.Q5 dx (zQ3 mv td pl kp s'.turn s'.drawn s'.letters))) p kp mv td m s':=by obtain ⟨⟨dx0,pl0,vs,h1,⟨ws,h2,h2'⟩,h3,h4,h5,h6⟩,ne⟩:=h;have k:∀ a xs,SqT K H a xs->SqT K (upd H p (.ins A.Q5 dx (zQ3 mv td pl kp s'.turn s'.drawn s'.letters))) a xs:=fun a xs q=>QK q h1 fun _=>zIx;refine ⟨⟨dx,pl,vs,zB,⟨ws,by rw [zF (fun z=>by rw [z,h1] at h2;cases h2)];exact h2,Paired.zFH h2' fun _ _ z=>z.move k⟩,by rw [zF (fun z=>by rw [z,h1] at h3;cases h3)];exact h3,k _ _ hpl,by rw [zF (fun z=>by rw [z,h1] at h5;cases h5)];exact h5,?_⟩,ne⟩;rw [hk];exact Paired.zFH h6 fun _ _ z=>z.move k
def zWN (K:Fg)(A:Ad)(H:Hp)(p kp mv td:Addr)(m:Nat)(Q:VK)(s' : QE):Prop:=∀ H',Fr p kp H H'->jo K A H' p kp mv td m s'->Q .non H'
theorem zWN.mono {H H1:Hp}{p kp mv td:Addr}{m:Nat}{Q:VK}{s' : QE}(h:zWN K A H p kp mv td m Q s')(f:Fr p kp H H1):zWN K A H1 p kp mv td m Q s':=fun H' g q=>h H' (f.trans g) q
def zX3 (m:Nat)(s:QE):QE:=⟨s.pos.add (pw m s.turn),s.turn,s.kept,s.drawn,s.letters⟩
inductive zWO (K:Fg)(A:Ad)(vs:List V)(H:Hp)(Q:VK)(E:XK):Prop | m (p kp mv td:Addr)(m:Nat)(s:QE)(_:vs=[.ref p])(_:jo K A H p kp mv td m s)(_:s.turn < m)(_:zWN K A H p kp mv td m Q (zX3 m s))
theorem zI0 (T:Txt K mg A):qM P w K mg base CX0 2 A.zCQ A.zE1 ["self"] (zWO K A):=by
 refine T.zCX.okc zOD fun vs H Q E h=>?_
 . obtain ⟨p,kp,mv,td,m,s,rfl,hp,ht,k⟩:=h;refine ⟨rfl,fun _ _ _ _ hr=>⟨_,(zE (jT (pv 0) (cA (zFi T) hr T.zGa T.Jt (bd2 T.Jt) (zA (zU (pv 0) rfl) (zA (ixL (zU (pv 0) rfl) (zU (pv 0) rfl)) zD))) rfl)),?_⟩⟩;show zW5 _ _ _ _ _ [some (.ref p)] H;obtain ⟨dx,pl,vs,h1,⟨ws,h2,h2'⟩,h3,h4,h5,h6⟩:=hp.at_;obtain ⟨v,e1,r,rfl,e2⟩:=qx h2' (zNQ ht);walk_at "ee";refine ⟨_,_,_,h1,T.qK,T.zt,_,rfl,_,_,_,h1,T.qK,T.JA,_,rfl,_,_,_,h1,T.qK,T.jQ,_,rfl,mv,rfl,ws,s.turn,rfl,SqL.of h2,_,Zw e1,pl,r,_,_,rfl,h4,e2,fun t H1 s1 ht1=>⟨_,_,_,s1 _ _ h1,T.qK,T.zt,by show 7 < 1000;omega,?_⟩⟩;exact k _ ((Fr.of s1).trans zIz) ((hp.mono s1).set (s':=zX3 m s) (SqT.of ht1) rfl)
def zYr (m:Nat)(s:QE)(c:Int):QE:=if j9 c=true then ⟨s.pos.add (pw m s.turn),s.turn,s.kept,s.drawn+1,s.letters+1⟩ else ⟨s.pos,s.turn,s.kept,s.drawn,s.letters+1⟩
inductive zHi (K:Fg)(A:Ad)(vs:List V)(H:Hp)(Q:VK)(E:XK):Prop | m (p kp mv td:Addr)(m:Nat)(s:QE)(c:Int)(_:vs=[.ref p,.int c])(_:jo K A H p kp mv td m s)(_:s.turn < m)(_:zWN K A H p kp mv td m Q (zYr m s c))
theorem zFG (T:Txt K mg A):qM P w K mg base CX0 3 A.qi A.jZ ["self","letter"] (zHi K A):=by
 refine T.jb.okc zFE fun vs H Q E h=>?_
 . obtain ⟨p,kp,mv,td,m,s,c,rfl,hp,ht,k⟩:=h;refine ⟨rfl,fun _ _ _ _ hr=>⟨_,(zC (zFt (pv 0) zM zOu) (zE (z6 (qQ (cA (zAf T) hr T.Jr T.qk (bd1 T.qk) (zA (pv 1) zD)) (fun _=>rfl)) (zC (zFt (pv 0) zM zOu) (zE (z7 (mA0 (pv 0) T.qK T.zE6 (zI0 T) hr (bd1 T.zCX))))) zR))),?_⟩⟩;show Zv _ _ _ [some (.ref p),some (.int c)] H;obtain ⟨dx,pl,vs,h1,h2,h3,h4,h5,h6⟩:=hp.at_;walk_at "ee";have e1:((s.letters:Nat):Int)+1=((s.letters+1:Nat):Int):=(by omega);have e2:((s.drawn:Nat):Int)+1=((s.drawn+1:Nat):Int):=by omega
   refine ⟨_,_,_,h1,T.qK,T.Qz,_,rfl,s.letters,rfl,_,_,h1,by show 7 < 1000;omega,?_⟩;have q1:=hp.set (dx:=dx) (s':=⟨s.pos,s.turn,s.kept,s.drawn,s.letters+1⟩) h4 rfl;rw [e1];refine ⟨c,rfl,j9 c,rfl,?_⟩;unfold zYr at k;cases hc:j9 c with
   | true =>rw [if_pos hc] at k;rw [if_pos rfl];refine ⟨_,_,_,zB,T.qK,T.JB,_,rfl,s.drawn,rfl,_,_,zB,by show 7 < 1000;omega,?_⟩;rw [e2];have q2:=q1.set (dx:=dx) (s':=⟨s.pos,s.turn,s.kept,s.drawn+1,s.letters+1⟩) (QK h4 h1 fun _=>zIx) rfl;exact ⟨_,_,zB,rfl,p,kp,mv,td,m,_,rfl,q2,ht,k.mono (zIz.trans zIz)⟩
   | false =>rw [if_neg (by rw [hc];decide)] at k;exact k _ zIz q1
end
theorem zEK {α β:Type}{F:α->β->Prop}{x:β}:∀ {vs:List α}{l:List β},Paired F vs (l ++ [x])->∃ us v,vs=us ++ [v]/\Paired F us l/\F v x
 | _,[],.cons h t=>by cases t;exact ⟨[],_,rfl,.nil,h⟩
 | _,_ :: l,.cons h t=>by obtain ⟨us,v,rfl,h1,h2⟩:=zEK (l:=l) t;exact ⟨_ :: us,v,rfl,.cons h h1,h2⟩
section
theorem jo.zTE {H:Hp}{p kp mv td:Addr}{m:Nat}{s s' : QE}{us:List V}(h:jo K A H p kp mv td m s)(hu:Paired (zNR K H) us s'.kept.reverse)(e1:s'.pos=s.pos)(e2:s'.turn=s.turn)(e3:s'.drawn=s.drawn)(e4:s'.letters=s.letters) : jo K A (upd H kp (.lst us)) p kp mv td m s':=by obtain ⟨⟨dx,pl,vs,h1,⟨ws,h2,h2'⟩,h3,h4,h5,h6⟩,ne⟩:=h;have k:∀ a xs,SqT K H a xs->SqT K (upd H kp (.lst us)) a xs:=fun a xs q=>QK q h5 fun _=>zEJ;rw [<- e1] at h4;rw [<- e2,<- e3,<- e4] at h1;exact ⟨⟨dx,pl,us,by rw [zF (fun z=>by rw [z,h5] at h1;cases h1)];exact h1,⟨ws,by rw [zF (Ne.symm ne)];exact h2,Paired.zFH h2' fun _ _ z=>z.move k⟩,by rw [zF (fun z=>by rw [z,h5] at h3;cases h3)];exact h3,k _ _ h4,zB,Paired.zFH hu fun _ _ z=>z.move k⟩,ne⟩
inductive zQ4 (K:Fg)(A:Ad)(vs:List V)(H:Hp)(Q:VK)(E:XK):Prop | m (p kp mv td:Addr)(m:Nat)(s:QE)(x:Pt×Nat)(r:List (Pt×Nat))(_:vs=[.ref p])(_:jo K A H p kp mv td m s)(_:s.kept=x :: r)(_:zWN K A H p kp mv td m Q ⟨x.1,x.2,r,s.drawn,s.letters⟩)
theorem zJz (T:Txt K mg A):qM P w K mg base CX0 1 A.QS A.zAK ["self"] (zQ4 K A):=by
 refine T.zAY.okc zFJ fun vs H Q E h=>?_
 . obtain ⟨p,kp,mv,td,m,s,x,r,rfl,hp,hk,k⟩:=h;refine ⟨rfl,fun _ _ _ _ hr=>⟨_,(zC (sA 1 zFJ.nd (zXF PySem.F.plainAttrs_list PySem.F.slot_list_pop PySem.F.type_list_pop zXG (zU (pv 0) rfl))) (zC (jT (pv 0) (ixT (pv 1) zM) rfl) (zE (jT (pv 0) (ixT (pv 1) zM) rfl)))),?_⟩⟩;show Zv _ _ _ [some (.ref p),none] H;obtain ⟨dx,pl,vs,h1,h2,h3,h4,h5,h6⟩:=hp.at_;rw [hk,List.reverse_cons] at h6;obtain ⟨us,v,rfl,g1,t,rr,rfl,g2,g3⟩:=zEK h6;have q1:=hp.zTE (s':=⟨s.pos,s.turn,r,s.drawn,s.letters⟩) g1 rfl rfl rfl rfl;have h1k:(upd H kp (.lst us)) p=some (.ins A.Q5 dx (zQ3 mv td pl kp s.turn s.drawn s.letters)):=by rw [zF (fun z=>by rw [z,h5] at h1;cases h1)];exact h1
   have g2k:=QK (o:=.lst us) g2 h5 fun _=>zEJ;have g3k:=QK (o:=.lst us) g3 h5 fun _=>zEJ;walk_at "ee";refine ⟨_,_,_,h1,T.qK,T.zAh,_,rfl,.inl ⟨rfl,_,SqL.of h5⟩,kp,rfl,_,h5,.ref t,(by simp),?_⟩;rw [List.dropLast_concat];refine ⟨t,rfl,_,g2k,_,rfl,_,_,_,h1k,T.qK,T.zt,by show 7 < 1000;omega,?_⟩;have q2:=q1.set (dx:=dx) (s':=⟨x.1,s.turn,r,s.drawn,s.letters⟩) g3k rfl;have g2q:=QK (o:=.ins A.Q5 dx (zQ3 mv td rr kp s.turn s.drawn s.letters)) g2k h1k fun _=>zIx;refine ⟨t,rfl,_,g2q,_,rfl,_,_,_,zB,T.qK,T.jQ,by show 7 < 1000;omega,?_⟩;have q3:=q2.set (dx:=dx) (s':=⟨x.1,x.2,r,s.drawn,s.letters⟩) (QK g3k h1k fun _=>zIx) rfl;exact k _ ((zX2.trans zIz).trans zIz) q3
inductive zUY (K:Fg)(A:Ad)(vs:List V)(H:Hp)(Q:VK)(E:XK):Prop | m (p kp mv td:Addr)(m:Nat)(s:QE)(_:vs=[.ref p])(_:jo K A H p kp mv td m s)(_:∀ r H',zz H H'->H r=none->H' r=some (.lst ((zN7 s).map V.int))->Q (.ref r) H')
theorem zHS (T:Txt K mg A):qM P w K mg base CX0 1 A.zA4 A.zDD ["self"] (zUY K A):=by
 refine T.zBC.okc zNA fun vs H Q E h=>?_
 . obtain ⟨p,kp,mv,td,m,s,rfl,hp,k⟩:=h;refine ⟨rfl,fun _ _ _ _ hr=>⟨_,(zE (zN (z9 zFw (zDm zDn (by rfl) T.zNX (by decide +kernel) (zA (zU (pv 0) rfl) zD)) (qY (zA (zU (pv 0) rfl) (zA (zd zQ (by rfl) T.QB PySem.boot_len (zA (zU (pv 0) rfl) zD)) (zA (zU (pv 0) rfl) (zA (zU (pv 0) rfl) zD)))))))),?_⟩⟩;show zHD _ _ [some (.ref p)] H;obtain ⟨dx,pl,vs,h1,h2,h3,h4,h5,h6⟩:=hp.at_;have hl:vs.length=s.kept.length:=by rw [Paired.length h6,List.length_reverse]
   walk_at "ee";refine ⟨_,_,_,h1,T.qK,T.zt,_,rfl,pl,rfl,_,.inr h4,fun l1 n1=>?_⟩;have s1:=zK (o:=.lst s.pos.vs) n1;refine ⟨_,_,_,s1 _ _ h1,T.qK,T.jQ,_,rfl,_,_,_,s1 _ _ h1,T.qK,T.zAh,_,rfl,kp,rfl,_,.inl (SqL.of (s1 _ _ h5)),_,_,_,s1 _ _ h1,T.qK,T.JB,_,rfl,_,_,_,s1 _ _ h1,T.qK,T.Qz,_,rfl,by show 4<=sizeLine;decide,fun l2 n2=>?_⟩;have s2:=s1.trans (zK (o:=.lst [.int (s.turn:Nat),.int (vs.length:Nat),.int (s.drawn:Nat),.int (s.letters:Nat)]) n2);refine ⟨_,zK n2 _ _ zB,_,zB,by show 4+4<=sizeLine;decide,fun l3 n3=>?_⟩;refine k l3 _ (s2.trans (zK n3)) (s2.free n3) ?_;rw [zB,hl];rfl
end
section
inductive zGI (K:Fg)(A:Ad)(vs:List V)(H:Hp)(Q:VK)(E:XK):Prop | m (p kp mv td:Addr)(m:Nat)(s:QE)(c:Int)(_:vs=[.ref p,.int c])(_:jo K A H p kp mv td m s)(_:m∈Trail.ROUNDS)(_:s.turn < m)(_:jk c=true)(_:(c=93->s.kept≠[]))(_:s.kept.length < sizeLine)(_:zWN K A H p kp mv td m Q (s.sign m c))
theorem turn_val (m:Nat){c:Int}(h:c=43\/c=45\/c=124):zFy (tdK m) (Sum.inl c)=some (.int (if c=43 then 1 else if c=45 then -1 else (m:Int) / 2)):=by rcases h with rfl | rfl | rfl <;> rfl
theorem zUZ {m t:Nat}(hm:m∈Trail.ROUNDS){c:Int}(h:c=43\/c=45\/c=124):((t:Int)+(if c=43 then 1 else if c=45 then -1 else (m:Int) / 2)) % (m:Int)=(((t+zPW m c) % m:Nat):Int):=by
 have m3:=zSY hm;unfold zPW;rcases h with rfl | rfl | rfl
 . simp
 . simp;have e:(t:Int) + -1=((t+(m - 1):Nat):Int) - (m:Int):=by omega
   rw [e,Int.sub_emod_right];simp
 . simp
theorem QL (T:Txt K mg A):qM P w K mg base CX0 4 A.Ji A.zBT ["self","sign"] (zGI K A):=by
 refine T.jV.okc zLY fun vs H Q E h=>?_
 . obtain ⟨p,kp,mv,td,m,s,c,rfl,hp,hm,ht,hs,hk,hz,k⟩:=h;refine ⟨rfl,fun _ _ _ _ hr=>⟨_,(zE (z6 (qQ (cA (zBO T) hr T.Q7 T.qm (bd1 T.qm) (zA (pv 1) zD)) (fun _=>rfl)) (zE (z7 (mA (pv 0) T.qK T.Z5 (zFG T) hr (bd2 T.jb) (zA (pv 1) zD)))) (zE (z6 (zS QC (pv 1) (zb rfl T.zYy) (zX _)) (zE (z7 (mA0 (pv 0) T.qK T.zE6 (zI0 T) hr (bd1 T.zCX)))) (zE (z6 (zS QC (pv 1) (zb rfl T.zKp) (zX _)) (zE (z7 (zFv PySem.F.plainAttrs_list PySem.F.slot_list_append PySem.F.type_list_append zAj (zU (pv 0) rfl) (zA (zH6 (zA (zU (pv 0) rfl) (zA (zU (pv 0) rfl) zD))) zD)))) (zE (z6 (zS QC (pv 1) (zb rfl T.zCa) (zX _)) (zE (z7 (mA0 (pv 0) T.qK T.zDO (zJz T) hr (bd1 T.zAY)))) (zE (jT (pv 0) (z9 zOr (z9 ZK (zU (pv 0) rfl) (zDq (zAF hr) (zU (pv 0) rfl) (pv 1) (fun _ _=>rfl))) (zd zQ (by rfl) T.QB PySem.boot_len (zA (zU (pv 0) rfl) zD))) rfl)))))))))),?_⟩⟩;show zWx _ _ _ _ [some (.ref p),some (.int c)] H;obtain ⟨dx,pl,vs,h1,⟨ws,h2,h2'⟩,h3,h4,h5,h6⟩:=hp.at_;have m3:=zSY hm;have hwl:ws.length=m:=by rw [Paired.length h2',zOP]
   have big:=sizeLine_eq;unfold QE.sign at k;walk_at "ee";refine ⟨c,rfl,isLet c,rfl,?_⟩;by_cases c1:isLet c=true
   . rw [if_pos c1] at k;rw [if_pos c1];exact ⟨_,_,h1,rfl,p,kp,mv,td,m,s,c,rfl,hp,ht,by unfold zYr;exact k⟩
   . rw [if_neg c1] at k;rw [if_neg c1];refine ⟨rfl,?_⟩;by_cases c2:c=62
     . rw [if_pos c2] at k;rw [if_pos (by rw [c2];rfl)];exact ⟨_,_,h1,rfl,p,kp,mv,td,m,s,rfl,hp,ht,k⟩
     . rw [if_neg c2] at k;rw [if_neg (by simpa using c2)];refine ⟨rfl,?_⟩;by_cases c3:c=91
       . rw [if_pos c3] at k;rw [if_pos (by rw [c3];rfl)];have hvl:vs.length=s.kept.length:=by rw [Paired.length h6,List.length_reverse]
         refine ⟨_,_,_,h1,T.qK,T.zAh,_,rfl,.inl ⟨rfl,_,SqL.of h5⟩,_,_,_,h1,T.qK,T.zt,_,rfl,_,_,_,h1,T.qK,T.jQ,_,rfl,by show 2<=sizeLine;omega,fun t nt=>?_⟩;have s1:=zK (o:=.tup [V.ref pl,.int (s.turn:Nat)]) nt;refine ⟨kp,rfl,_,s1 _ _ h5,by omega,?_⟩;refine k _ ((Fr.of s1).trans zX2) ((hp.mono s1).zTE ?_ rfl rfl rfl rfl);rw [List.reverse_cons];exact Paired.snoc (Paired.zFH h6 fun _ _ z=>z.move fun _ _ q=>ze q s1) ⟨t,pl,rfl,SqT.of zB,ze h4 s1⟩
       . rw [if_neg c3] at k;rw [if_neg (by simpa using c3)];refine ⟨rfl,?_⟩;by_cases c4:c=93
         . rw [if_pos c4] at k;rw [if_pos (by rw [c4];rfl)];cases e:s.kept with
           | nil=>exact absurd e (hk c4)
           | cons x r =>rw [e] at k;exact ⟨_,_,h1,rfl,p,kp,mv,td,m,s,x,r,rfl,hp,e,k⟩
         . rw [if_neg c4] at k;rw [if_neg (by simpa using c4)];have c5:=zMw hs c1 c2 c3 c4;refine ⟨_,_,_,h1,T.qK,T.jQ,_,rfl,_,_,_,h1,T.qK,T.JY,_,rfl,td,rfl,_,.inl ⟨_,Sum.inl c,.inl h3,rfl,(turn_val m c5).symm⟩,_,rfl,_,rfl,_,_,_,h1,T.qK,T.JA,_,rfl,mv,rfl,_,.inl (SqL.of h2),?_⟩;rw [hwl];refine ⟨by omega,_,_,_,h1,T.qK,T.jQ,by show 7 < 1000;omega,?_⟩;rw [zUZ hm c5];exact k _ zIz (hp.set (s':=⟨s.pos,(s.turn+zPW m c) % m,s.kept,s.drawn,s.letters⟩) h4 rfl)
end
theorem zTF (m:Nat):∀ (s:List Int)(p:QE),(s.foldl (fun p c=>p.sign m c) p).kept.length<=p.kept.length+s.length
 | [],p=>Nat.le_refl _
 | c :: s,p=>by
   rw [List.foldl_cons,List.length_cons];have h:=zTF m s (p.sign m c);have h2:(p.sign m c).kept.length<=p.kept.length+1:=by
     rw [zPb];split
     . exact Nat.le_refl _
     . split <;> omega
   omega
structure zEL (L:List Int):Prop where
 sg:Sgs L
 kp:∀ i m,L[i]? = some 93->(zT m (L.take i)).kept≠[]
theorem zN6.walk {L:List Int}(h:zN6 L):zEL L:=⟨h.sg,fun i m hi=>h.kept hi m⟩
theorem zEL.take {L:List Int}(h:zEL L)(n:Nat):zEL (L.take n):=by refine ⟨fun c hc=>h.sg c (List.mem_of_mem_take hc),fun i m hi=>?_⟩;have hl:i < (L.take n).length:=(List.getElem?_eq_some_iff.mp hi).1;rw [List.length_take] at hl;rw [List.take_take,Nat.min_eq_left (by omega)];refine h.kp i m ?_;rw [List.getElem?_take,if_pos (by omega)] at hi;exact hi
theorem zC8 {L:List Int}{i:Nat}{c:Int}(h:L[i]? = some c):L.take (i+1)=L.take i ++ [c]:=by rw [List.take_succ,h];rfl
theorem zPu {J:It}{D:Addr}{g:TG}{tt:TT}{te:TE}{vs:List Nat}{Z:L2.St}{H0:Hp}{Q:VK}(n:Nat)(Pv:Nat->Hp->Prop)(h0:Pv 0 H0)(hgo:∀ i H,i < n->Pv i H->J.go i H)(hst:∀ H,Pv n H->J.stop n H)(hs:∀ i H x H',i < n->Pv i H->J.yld i H x H'->g x (wipe Z vs) H' fun σ2 H2=>wipe σ2 vs=wipe Z vs/\tt σ2 H2 fun b H3=>if b=true then te σ2 H3 fun y H4=>∃ acc,H4 D=some (.lst acc)/\acc.length < sizeLine/\Pv (i+1) (upd H4 D (.lst (acc ++ [y]))) else Pv (i+1) H3)(hd:∀ H,Pv n H->Q (.ref D) H) : ∃ W:Nat->Nat->Hp->Prop,(∃ m,W 0 m H0)/\∀ i m H,W i m H->(J.stop i H/\Q (.ref D) H)\/(J.go i H/\∃ Nx:Hp->Prop,(∀ H',Nx H'->∃ m',m' < m/\W (i+1) m' H')/\∀ x H',J.yld i H x H'->g x (wipe Z vs) H' fun σ2 H2=>wipe σ2 vs=wipe Z vs/\tt σ2 H2 fun b H3 =>
     if b=true then te σ2 H3 fun y H4=>∃ acc,H4 D=some (.lst acc)/\acc.length < sizeLine/\Nx (upd H4 D (.lst (acc ++ [y]))) else Nx H3):=by
 refine ⟨fun i m H=>m=n - i/\i<=n/\Pv i H,⟨n,by simp,Nat.zero_le _,h0⟩,?_⟩;rintro i m H ⟨rfl,hi,pv⟩;by_cases e:i < n
 . exact .inr ⟨hgo i H e pv,Pv (i+1),fun H' h=>⟨_,by omega,rfl,by omega,h⟩,fun x H' y=>hs i H x H' e pv y⟩
 . have:i=n:=(by omega);subst this;exact .inl ⟨hst H pv,hd H pv⟩
section
theorem zG7 {H H1 H2:Hp}{p kp:Addr}(s:zz H H1)(np:H p=none)(nk:H kp=none)(f:Fr p kp H1 H2):zz H H2:=fun b o e=>f b o (zI e np) (zI e nk) (s b o e)
theorem zGJ {H:Hp}{R:Hp->Prop}{m:Nat}{x dx:Addr}(hm:m∈Trail.ROUNDS)(nx:H x=none)(ndx:H dx=none)(nxd:dx≠x)(q:∀ kp mv td H',zz H H'->H kp=none->H mv=none->H td=none->jo K A H' x kp mv td m ZG->R H') : zIy K A [.ref x,.int m] (upd (upd H dx (.own x)) x (.ins A.Q5 dx [])) (fun v H2=>v=.non/\R H2) E0:=by
 have fr:∀ y,(upd (upd H dx (.own x)) x (.ins A.Q5 dx [])) y=none->H y=none:=fun y e=>by
   by_cases z:y=x
   . rw [z];exact nx
   . rw [zF z] at e;by_cases z2:y=dx
     . rw [z2];exact ndx
     . rw [zF z2] at e;exact e
 refine ⟨x,dx,m,rfl,zB,hm,fun kp mv td H' k n1 n2 n3 hp=>⟨rfl,q kp mv td H' (fun b o e=>k b o (zI e nx) ?_) (fr _ n1) (fr _ n2) (fr _ n3) hp⟩⟩;rw [zF (zI e nx),zF (zI e ndx)];exact e
theorem zEM {H:Hp}{Q:VK}{E:XK}{p kp mv td:Addr}{m:Nat}{L:List Int}{i:Nat}{c:Int}(hp:jo K A H p kp mv td m (zT m (L.take i)))(hm:m∈Trail.ROUNDS)(hL:zEL L)(hz:L.length<=100000)(hc:L[i]? = some c)(q:∀ H',Fr p kp H H'->jo K A H' p kp mv td m (zT m (L.take (i+1)))->Q .non H'):zGI K A [.ref p,.int c] H Q E:=by
 have big:=sizeLine_eq;refine ⟨p,kp,mv,td,m,_,c,rfl,hp,hm,(zDt hm _).tn,(hL.sg c (List.mem_of_getElem? hc)).2,fun e=>hL.kp i m (by rw [hc,e]),?_,?_⟩
 . have:=zTF m (L.take i) ZG;rw [List.length_take] at this;have h0:ZG.kept.length=0:=rfl;unfold zT;omega
 . rw [zC8 hc,zCi] at q;exact q
inductive zI1 (K:Fg)(A:Ad)(vs:List V)(H:Hp)(Q:VK)(E:XK):Prop | m (a:Addr)(L:List Int)(m:Nat)(_:vs=[.ref a,.int m])(_:H a=some (.lst (L.map V.int)))(_:m∈Trail.ROUNDS)(_:zEL L)(_:L.length<=100000)(_:∀ r H',zz H H'->H r=none->H' r=some (.lst ((zN7 (zT m L)).map V.int))->Q (.ref r) H')
theorem zI2 (T:Txt K mg A):qM P w K mg base CX0 6 A.ZR A.JN ["signs","turns"] (zI1 K A):=by
 refine T.Zd.okc zAs fun vs H Q E h=>?_
 . obtain ⟨a,L,m,rfl,ha,hm,hL,hz,k⟩:=h;refine ⟨rfl,fun _ _ _ _ hr=>⟨_,(zC (sA 2 zAs.nd (zBi T.zOY (zAy T) (hr.mono (by decide)) rfl T.zOX (bd2 T.Z9) .nil zBj (zA (pv 1) zD))) (zC (JZ PassesOwn.never rfl (zDk (pv 0)) (z8 (i:=3) zAs.nd rfl (Or.inl rfl)) (zE (z7 (mA (pv 2) T.qK T.j5 (QL T) hr (bd2 T.jV) (zA (pv 3) zD))))) (zE (zN (mA0 (pv 2) T.qK T.zDP (zHS T) hr (bd1 T.zBC)))))),?_⟩⟩;show Zv _ _ _ [some (.ref a),some (.int m),none,none] H;walk_at "ee";refine fun p dp np ndp npd=>zGJ hm np ndp npd fun kp mv td H1 s1 nk nmv ntd hp=>?_;refine ⟨_,rfl,a,rfl,⟨_,SqL.of (s1 _ _ ha)⟩,zEm (xs:=L.map V.int) (fun i Z H'=>∃ v3:Option V,Z=[some (.ref a),some (.int m),some (.ref p),v3]/\zz H H'/\jo K A H' p kp mv td m (zT m (L.take i))) ?_ ?_ ?_ ?_⟩
   . exact ⟨none,rfl,s1,hp⟩
   . rintro i Z H' hi ⟨v3,rfl,sm,_⟩;exact SqL.of (sm _ _ ha)
   . rintro i x Z H' hx ⟨v3,rfl,sm,hp'⟩;refine hid fun Z_ z_=>?_;obtain ⟨c,hc,rfl⟩:=int_at hx;obtain ⟨dx,pl,vs,h1,_⟩:=hp'.at_;refine z_ ?_;clear z_;walk_at "ee";exact ⟨_,_,h1,rfl,zEM hp' hm hL hz hc fun H2 f hp2=>⟨zG7 sm np nk f,hp2⟩⟩
   . rintro Z H' ⟨v3,rfl,sm,hp'⟩;refine hid fun Z_ z_=>?_;obtain ⟨dx,pl,vs,h1,_⟩:=hp'.at_;refine z_ ?_;clear z_;rw [List.length_map,List.take_length] at hp';walk_at "ee";exact ⟨_,_,h1,rfl,p,kp,mv,td,m,_,rfl,hp',fun r H2 s2 nr hr2=>k r H2 (sm.trans s2) (sm.free nr) hr2⟩
inductive zJ0 (vs:List V)(H:Hp)(Q:VK)(E:XK):Prop | m (a:Addr)(L:List Int)(m:Nat)(_:vs=[.ref a])(_:H a=some (.lst (L.map V.int)))(_:L.length<=100000)(_:∀ r H',zz H H'->H r=none->H' r=some (.lst (((zY m L).map fun x=>(x.1:Int)).map V.int))->Q (.ref r) H')
theorem zJ1 (T:Txt K mg A):qM P w K mg base CX0 2 A.QT A.zAL ["signs"] zJ0:=by
 refine T.Qm.okc JF fun vs H Q E h=>?_
 . obtain ⟨a,L,m,rfl,ha,hz,k⟩:=h;refine ⟨rfl,fun _ _ _ _ hr=>⟨_,(zE (zN (zRc (g:=(zYQ K 2 (zTa (zE9 1) (zTa (zE9 2) zYP)))) (tt:=(zZc K (zJY zKZ [] E0 (zGj (zFr 2) zP8)))) (te:=(zFr 1)) (own:=[(("place" : Str),1),(("sign" : Str),2)]) rfl JF.nd (zLD rfl T.j7 (zA (pv 0) zD)) ⟨rfl,by decide +kernel,(by show ∀ p∈[(("place" : Str),1),(("sign" : Str),2)],(["signs","place","sign"]:List Str)[p.2]? = some p.1;decide +kernel),(by show ∀ y∈(_:List (Str×NameKind)),y.2=.free->(zH QF).names.lookup y.1=some .cell\/(zH QF).names.lookup y.1=some .free;decide +kernel),(by show ∀ y∈(_:List (Str×NameKind)),y.2=.local\/y.2=.cell->y.1∈[(("place" : Str),1),(("sign" : Str),2)].map (·.1)\/y.1∉(["signs","place","sign"]:List Str);decide +kernel)⟩ (fun _ _ _ _ _=>(zJ8 rfl (Zk (z8 (i:=1) JF.nd rfl (Or.inl rfl)) (Zk (z8 (i:=2) JF.nd rfl (Or.inl rfl)) zGg)))) (fun _ _ _ _ _=>(zRa (qQ (cA (zAf T) hr T.Jr T.qk (bd1 T.qk) (zA (pv 2) zD)) (fun _=>rfl)))) (fun _ _ _ _ _=>(pv 1))))),?_⟩⟩;show zHD _ _ [some (.ref a),none,none] H;have big:=sizeLine_eq;refine ⟨_,rfl,a,_,rfl,SqL.of ha,fun D nD=>?_⟩;have hs0:∀ i,(zY m (L.take i)).length<=100000:=fun i=>by
     have:=zDu m (L.take i) ZG 0;rw [List.length_take] at this;unfold zY;omega
   refine zPu L.length (fun i H'=>zz H H'/\H' D=some (.lst (((zY m (L.take i)).map fun x=>(x.1:Int)).map V.int))) ⟨zK nD,by rw [zB];rfl⟩ (fun i H' hi ⟨sm,_⟩=>?_) (fun H' ⟨sm,_⟩=>⟨_,SqL.of (sm _ _ ha),by rw [List.length_map];exact Nat.le_refl _⟩) (fun i H' x H2 hi ⟨sm,hD⟩ hy=>?_) (fun H' ⟨sm,hD⟩=>?_)
   . exact ⟨_,.int L[i],SqL.of (sm _ _ ha),by rw [List.getElem?_map,List.getElem?_eq_getElem hi];rfl⟩
   . obtain ⟨tt,y,rfl,nt,rfl,hx⟩:=hy;have hx:=hx _ (SqL.of (sm _ _ ha));obtain ⟨c,hc,rfl⟩:=int_at hx;have s2:=zK (o:=.tup [.int (i:Nat),V.int c]) nt;refine ⟨tt,_,rfl,SqT.of zB,rfl,_,_,rfl,_,_,rfl,rfl,rfl,?_⟩;refine ⟨_,rfl,c,rfl,j9 c,rfl,?_⟩;have el:(L.take i).length=i:=by rw [List.length_take];omega
     have es:=zAl m (L.take i) c;rw [<- zC8 hc,el] at es;cases hcap:j9 c with
     | true =>rw [if_pos hcap] at es;dsimp only;rw [if_pos rfl];refine ⟨_,rfl,_,s2 _ _ hD,by rw [List.length_map,List.length_map];have:=hs0 i;omega,jY (sm.trans s2) nD,?_⟩;rw [zB,es];simp
     | false =>rw [if_neg (by rw [hcap];decide),List.append_nil] at es;dsimp only;rw [if_neg (by decide),es];exact ⟨sm.trans s2,s2 _ _ hD⟩
   . rw [List.take_length] at hD;exact k D H' sm nD hD
end
theorem zQ5 (m:Nat)(a b:List Int):∃ t,zY m (a ++ b)=zY m a ++ t:=by refine snoc_ind (P:=fun b=>∃ t,zY m (a ++ b)=zY m a ++ t) ⟨[],by simp⟩ (fun b c ⟨t,e⟩=>?_) b;rw [<- List.append_assoc,zAl,e];exact ⟨_,List.append_assoc _ _ _⟩
theorem zI3 (m:Nat)(L:List Int)(i:Nat):∃ t,zY m L=zY m (L.take i) ++ t:=by
 have:=zQ5 m (L.take i) (L.drop i)
 rwa [List.take_append_drop] at this
def zI4 (H:Hp)(ex:List Addr)(vs:List V)(rows:List (List Int)):Prop:=Paired (fun v row=>∃ p,v=.ref p/\p∉ex/\H p=some (.lst (row.map V.int))) vs rows
theorem zI4.move {H H' : Hp}{ex:List Addr}{vs:List V}{rows:List (List Int)}(h:zI4 H ex vs rows)(k:∀ b o,b∉ex->H b=some o->H' b=some o):zI4 H' ex vs rows :=
 Paired.zFH h fun _ _ ⟨p,e,n,q⟩=>⟨p,e,n,k _ _ n q⟩
section
def Fw (m:Nat)(L:List Int)(f:Nat):List Stp:=(zY m L).filter fun x=>decide (f<=x.1)
theorem zWP {m f i:Nat}{L:List Int}{c:Int}(hc:L[i]? = some c)(hi:i < L.length):Fw m (L.take (i+1)) f=Fw m (L.take i) f ++ (if j9 c=true/\f<=i then [(i,zT m (L.take i),(zT m (L.take (i+1))).pos)] else []):=by
 unfold Fw;have el:(L.take i).length=i:=by rw [List.length_take];omega
 rw [zC8 hc,zAl,List.filter_append,el];congr 1;by_cases h1:j9 c=true
 . rw [if_pos h1];by_cases h2:f<=i <;> simp [h1,h2]
 . rw [if_neg h1,if_neg fun z=>h1 z.1];rfl
theorem zWQ {m f n i:Nat}{L:List Int}(h:(Fw m (L.take i) f).length=n):zDg m L f n=Fw m (L.take i) f:=by obtain ⟨t,e⟩:=zI3 m L i;unfold zDg;rw [e,List.filter_append];show (Fw m (L.take i) f ++ _).take n=_;rw [<- h,List.take_left]
inductive zLs (K:Fg)(A:Ad)(vs:List V)(H:Hp)(Q:VK)(E:XK):Prop | m (a:Addr)(L:List Int)(m f n:Nat)(_:vs=[.ref a,.int m,.int f,.int n])(_:H a=some (.lst (L.map V.int)))(_:m∈Trail.ROUNDS)(_:zEL L)(_:L.length<=100000)(_:∀ r H' ws,zz H H'->H r=none->H' r=some (.lst ws)->zI4 H' [r] ws ((zDg m L f n).map zTQ)->Q (.ref r) H')
theorem zLt (T:Txt K mg A):qM P w K mg base CX0 6 A.Jk A.zBV ["signs","turns","first","most"] (zLs K A):=by
 refine T.Jw.okc QH fun vs H Q E h=>?_
 . obtain ⟨a,L,m,f,n,rfl,ha,hm,hL,hz,k⟩:=h;refine ⟨rfl,fun _ _ _ _ hr=>⟨_,(zC (sA 4 QH.nd (zBi T.zOY (zAy T) (hr.mono (by decide)) rfl T.zOX (bd2 T.Z9) .nil zBj (zA (pv 1) zD))) (zC (sA 5 QH.nd (qY zD)) (zC (JZ PassesOwn.never rfl (zLD rfl T.j7 (zA (pv 0) zD)) (zJ8 rfl (Zk (z8 (i:=6) QH.nd rfl (Or.inl rfl)) (Zk (z8 (i:=7) QH.nd rfl (Or.inl rfl)) zGg))) (zC (z6 (zS QC (zd zQ (by rfl) T.QB PySem.boot_len (zA (pv 5) zD)) (pv 3) (zX _)) (zE (zN (pv 5))) zR) (zC (z6 (L2.PW.pt (zJ7 (qQ (cA (zAf T) hr T.Jr T.qk (bd1 T.qk) (zA (pv 7) zD)) (fun _=>rfl)) (zH0 (zS zRO (pv 6) (pv 2) (zX _))))) (zE (z7 (zFv PySem.F.plainAttrs_list PySem.F.slot_list_append PySem.F.type_list_append zAj (pv 5) (zA (z9 zFw (qY (zA (pv 6) zD)) (mA0 (pv 4) T.qK T.zDP (zHS T) hr (bd1 T.zBC))) zD)))) zR) (zE (z7 (mA (pv 4) T.qK T.j5 (QL T) hr (bd2 T.jV) (zA (pv 7) zD))))))) (zE (zN (pv 5)))))),?_⟩⟩;show Zv _ _ _ [some (.ref a),some (.int m),some (.int f),some (.int n),none,none,none,none] H;have big:=sizeLine_eq;walk_at "ee";refine fun p dp np ndp npd=>zGJ hm np ndp npd fun kp mv td H1 s1 nk nmv ntd hp=>⟨Nat.zero_le _,fun st nst=>?_⟩;refine hid fun Z_ z_=>?_;obtain ⟨dx,pl,vs0,g1,⟨mvs,g2,_⟩,g3,_,g5,_⟩:=hp.at_;have nst0:=s1.free nst;have stk:st≠kp:=fun z=>by rw [z,g5] at nst;cases nst
   have stm:st≠mv:=fun z=>by rw [z,g2] at nst;cases nst
   have stp:st≠p:=fun z=>by rw [z,g1] at nst;cases nst
   have stt:st≠td:=fun z=>by rw [z,g3] at nst;cases nst
   have hF:∀ i,(Fw m (L.take i) f).length<=100000:=fun i=>by have:=zDu m (L.take i) ZG 0;rw [List.length_take] at this;have h2:=List.length_filter_le (fun x:Stp=>decide (f<=x.1)) (zY m (L.take i));unfold Fw;unfold zY at *;omega
   obtain ⟨I,hI⟩ : ∃ I:Nat->List (Option V)->Hp->Prop,I=fun i Z H'=>∃ (v6 v7:Option V)(ws:List V),Z=[some (.ref a),some (.int m),some (.int f),some (.int n),some (.ref p),some (.ref st),v6,v7]/\zz H H'/\jo K A H' p kp mv td m (zT m (L.take i))/\H' st=some (.lst ws)/\zI4 H' [st,p,kp] ws ((Fw m (L.take i) f).map zTQ)/\(Fw m (L.take i) f).length<=n:=⟨_,rfl⟩;refine z_ ?_;clear z_;refine ⟨_,rfl,a,_,rfl,SqL.of (zK nst _ _ (s1 _ _ ha)),zLM (xs:=L.map V.int) I ?_ ?_ ?_ ?_⟩
   . rw [hI];exact ⟨none,none,[],rfl,s1.trans (zK nst),hp.mono (zK nst),zB,.nil,Nat.zero_le _⟩
   . intro i Z H' hi h;rw [hI] at h;obtain ⟨v6,v7,ws,rfl,sm,_⟩:=h;exact SqL.of (sm _ _ ha)
   . intro i x Z H' tt hx h nt;rw [hI] at h;obtain ⟨v6,v7,ws,rfl,sm,hp',hst,hrows,hle⟩:=h;refine hid fun Z_ z_=>?_;obtain ⟨c,hc,rfl⟩:=int_at hx;have hi:i < L.length:=(List.getElem?_eq_some_iff.mp hc).1;have hwl:ws.length=(Fw m (L.take i) f).length:=by rw [Paired.length hrows,List.length_map]
     have s2:=zK (o:=.tup [.int (i:Nat),V.int c]) nt;have hp2:=hp'.mono s2;have fin:∀ {H3:Hp}{vs3:List V}{R:VK},zz H H3->jo K A H3 p kp mv td m (zT m (L.take i))->H3 st=some (.lst vs3)->zI4 H3 [st,p,kp] vs3 ((Fw m (L.take (i+1)) f).map zTQ)->
         (∀ H4,zz H H4->jo K A H4 p kp mv td m (zT m (L.take (i+1)))->H4 st=some (.lst vs3)->zI4 H4 [st,p,kp] vs3 ((Fw m (L.take (i+1)) f).map zTQ)->R .non H4)->zGI K A [.ref p,.int c] H3 R E0:=by
       intro H3 vs3 R sm3 hp3 hst3 hr3 q;exact zEM hp3 hm hL hz hc fun H4 fr hp4=>q H4 (zG7 sm3 np nk fr) hp4 (fr _ _ stp stk hst3) (hr3.move fun b o hb e=>fr b o (fun z=>hb (by simp [z])) (fun z=>hb (by simp [z])) e)
     have eF:=zWP (m:=m) (f:=f) hc hi;have hr2:=hrows.move fun b o _ e=>s2 b o e;obtain ⟨dxp,plp,vsp,gp1,gp2,gp3,gp4,gp5,gp6⟩:=hp2.at_;refine z_ ?_;clear z_;walk_at "ee";refine ⟨_,SqT.of zB,rfl,_,_,rfl,_,_,rfl,rfl,_,.inl (SqL.of (s2 _ _ hst)),rfl,?_⟩;by_cases c1:ws.length=n
     . rw [if_pos (by simp [c1])];refine k st _ ws (sm.trans s2) nst0 (s2 _ _ hst) ?_;rw [zWQ (i:=i) (by omega)];exact Paired.zFH hr2 fun _ _ ⟨p,e,n,q⟩=>⟨p,e,fun z=>n (by rw [List.mem_singleton.mp z];simp),q⟩
     . rw [if_neg (by simp;omega)];refine ⟨c,rfl,j9 c,rfl,?_⟩;by_cases c2:j9 c=true
       . rw [if_pos c2];refine ⟨_,rfl,?_⟩;by_cases c3:f<=i
         . rw [if_pos (by simp;omega)];rw [if_pos ⟨c2,c3⟩] at eF;refine ⟨.inl ⟨rfl,_,SqL.of (s2 _ _ hst)⟩,by show 1<=sizeLine;omega,fun q1 nq1=>?_⟩;have s3:=zK (o:=.lst [.int (i:Nat)]) nq1;refine ⟨_,_,s3 _ _ gp1,rfl,p,kp,mv,td,m,_,rfl,hp2.mono s3,fun r H3 s4 nr hr3=>⟨r,rfl,_,s4 _ _ zB,_,hr3,by show 1+8<=sizeLine;omega,fun q2 nq2=>?_⟩⟩;refine hid fun Z_ z_=>?_;have s5:=(s3.trans s4).trans (zK (o:=.lst ([.int (i:Nat)] ++ (zN7 (zT m (L.take i))).map V.int)) nq2);have q2f:∀ b o,(upd H' tt (.tup [.int (i:Nat),V.int c])) b=some o->b≠q2:=fun b o e=>zI ((s3.trans s4) _ _ e) nq2;have hst5:=s5 _ _ (s2 _ _ hst);have hp5:=(hp2.mono s5).off (o:=.lst (ws ++ [.ref q2])) hst5 (fun _=>zEJ) stp stk stm stt;obtain ⟨dx5,pl5,vs5,gg1,_⟩:=hp5.at_;refine z_ ?_;clear z_;refine ⟨_,hst5,by have:=hF i;omega,_,_,gg1,rfl,fin (vs3:=ws ++ [.ref q2]) (jY ((sm.trans s2).trans s5) nst0) hp5 zB ?_ ?_⟩
           . rw [eF,List.map_append];refine Paired.snoc ((hr2.move fun b o _ e=>s5 b o e).move fun b o hb e=>by rw [zF (fun z=>hb (by simp [z]))];exact e) ⟨q2,rfl,?_,?_⟩
             . simp only [List.mem_cons,List.not_mem_nil,or_false,not_or];exact ⟨fun z=>q2f _ _ (s2 _ _ hst) z.symm,fun z=>q2f _ _ gp1 z.symm,fun z=>q2f _ _ gp5 z.symm⟩
             . rw [zF (fun z=>q2f _ _ (s2 _ _ hst) z.symm),zB];rfl
           . intro H4 t1 t2 t3 t4;rw [hI];exact ⟨_,_,_,rfl,t1,t2,t3,t4,by rw [eF,List.length_append];show _+1<=n;omega⟩
         . rw [if_neg (by simp;omega)];rw [if_neg fun z=>c3 z.2,List.append_nil] at eF;exact ⟨_,_,gp1,rfl,fin (sm.trans s2) hp2 (s2 _ _ hst) (by rw [eF];exact hr2) fun H4 t1 t2 t3 t4=>by rw [hI];exact ⟨_,_,_,rfl,t1,t2,t3,t4,by rw [eF];exact hle⟩⟩
       . rw [if_neg c2];rw [if_neg fun z=>c2 z.1,List.append_nil] at eF;exact ⟨_,_,gp1,rfl,fin (sm.trans s2) hp2 (s2 _ _ hst) (by rw [eF];exact hr2) fun H4 t1 t2 t3 t4=>by rw [hI];exact ⟨_,_,_,rfl,t1,t2,t3,t4,by rw [eF];exact hle⟩⟩
   . intro Z H' h;rw [hI] at h;obtain ⟨v6,v7,ws,rfl,sm,hp',hst,hrows,hle⟩:=h;rw [List.length_map,List.take_length] at hrows hle;walk_at "ee";refine k st H' ws sm nst0 hst ?_;have:zDg m L f n=Fw m L f:=List.take_of_length_le hle;rw [this];exact Paired.zFH hrows fun _ _ ⟨p,e,n,q⟩=>⟨p,e,fun z=>n (by rw [List.mem_singleton.mp z];simp),q⟩
end
theorem zKm {α β:Type}{F:α->β->Prop}{a:α}{b:β}(h:F a b):∀ {vs:List α}{l:List β}(i:Nat),Paired F vs l->Paired F (vs.set i a) (l.set i b)
 | _,_,_,.nil=>.nil
 | _,_,0,.cons _ t=>.cons h t
 | _,_,i+1,.cons q t=>.cons q (zKm h i t)
theorem zKn {α β:Type}{F:α->β->Prop}{a:α}{b:β}(h:F a b):∀ n,Paired F (List.replicate n [a]).flatten (List.replicate n b)
 | 0=>.nil
 | n+1=>by rw [List.replicate_succ,List.flatten_cons,List.replicate_succ];exact .cons h (zKn h n)
theorem zWR {n j:Nat}(h:j < n):ixN n (j:Int)=some j:=by unfold ixN;rw [if_pos (by omega),if_pos (by omega)];rfl
def zQ8 (m:Nat)(l:List Stp):List Pt:=(List.range m).map (bkt l)
theorem zUa (m:Nat):zQ8 m []=List.replicate m Pt.zero:=by unfold zQ8;have:bkt []=fun _=>Pt.zero:=rfl;rw [this,List.map_const',List.length_range]
theorem zGK (m:Nat)(l:List Stp):(zQ8 m l).length=m:=by unfold zQ8;rw [List.length_map,List.length_range]
theorem zLu {m t:Nat}(l:List Stp)(h:t < m):(zQ8 m l)[t]? = some (bkt l t):=by unfold zQ8;rw [List.getElem?_map,List.getElem?_range h];rfl
theorem zTG {m:Nat}(l:List Stp)(x:Stp):zQ8 m (l ++ [x])=(zQ8 m l).set x.2.1.turn ((bkt l x.2.1.turn).add x.2.1.pos):=by
 apply List.ext_getElem?;intro i;by_cases h:i < m
 . rw [zLu _ h,zHt,List.getElem?_set];by_cases e:x.2.1.turn=i
   . rw [if_pos e,if_pos e,if_pos (by rw [zGK];omega),e]
   . rw [if_neg e,if_neg e,zLu _ h]
 . rw [List.getElem?_eq_none (by rw [zGK];omega),List.getElem?_eq_none (by rw [List.length_set,zGK];omega)]
section
inductive zLv (K:Fg)(A:Ad)(vs:List V)(H:Hp)(Q:VK)(E:XK):Prop | m (a:Addr)(L:List Int)(m:Nat)(_:vs=[.ref a,.int m])(_:H a=some (.lst (L.map V.int)))(_:m∈Trail.ROUNDS)(_:zEL L)(_:L.length<=100000)(_:∀ r H',zz H H'->SqT K H' r (zQc (fun t=>jU m (bkt (zY m L) t) (pw m t)) m).vs->Q (.ref r) H')
theorem zLw (T:Txt K mg A):qM P w K mg base CX0 6 A.Jj A.zBU ["signs","turns"] (zLv K A):=by
 refine T.Jv.okc jA fun vs H Q E h=>?_
 . obtain ⟨a,L,m,rfl,ha,hm,hL,hz,k⟩:=h;refine ⟨rfl,fun _ _ _ _ hr=>⟨_,(zC (sA 2 jA.nd (zBi T.zOY (zAy T) (hr.mono (by decide)) rfl T.zOX (bd2 T.Z9) .nil zBj (zA (pv 1) zD))) (zC (sA 3 jA.nd (z9 zXH (qY (zA (Z1 rfl T.zBf) zD)) (pv 1))) (zC (JZ PassesOwn.never rfl (zDk (pv 0)) (z8 (i:=4) jA.nd rfl (Or.inl rfl)) (zC (z6 (qQ (cA (zAf T) hr T.Jr T.qk (bd1 T.qk) (zA (pv 4) zD)) (fun _=>rfl)) (zE (zW0 (cA (zFi T) hr T.zGa T.Jt (bd2 T.Jt) (zA (ixL (pv 3) (zU (pv 2) rfl)) (zA (zU (pv 2) rfl) zD))) (zWz (pv 3) (zU (pv 2) rfl) set_list))) zR) (zE (z7 (mA (pv 2) T.qK T.j5 (QL T) hr (bd2 T.jV) (zA (pv 4) zD)))))) (zC (sA 5 jA.nd (Z1 rfl T.zBf)) (zC (JZ PassesOwn.never rfl (zLD rfl T.j7 (zA (pv 3) zD)) (zJ8 rfl (Zk (z8 (i:=6) jA.nd rfl (Or.inl rfl)) (Zk (z8 (i:=7) jA.nd rfl (Or.inl rfl)) zGg))) (zE (sA 5 jA.nd (cA (zFi T) hr T.zGa T.Jt (bd2 T.Jt) (zA (pv 5) (zA (cA (zQ2 T) hr T.zJK T.zEc (bd3 T.zEc) (zA (pv 7) (zA (ixL (zU (pv 2) rfl) (pv 6)) (zA (pv 1) zD)))) zD)))))) (zE (zN (pv 5)))))))),?_⟩⟩;show Zv _ _ _ [some (.ref a),some (.int m),none,none,none,none,none,none] H;have big:=sizeLine_eq;have m12:m<=12:=by rcases qN hm with rfl | rfl | rfl | rfl | rfl | rfl | rfl <;> decide
   walk_at "ee";refine fun p dp np ndp npd=>zGJ hm np ndp npd fun kp mv td H1 s1 nk nmv ntd hp=>⟨by show 1<=sizeLine;omega,fun l0 nl0=>?_⟩;refine ⟨_,zB,by omega,by omega,by show 1 * (m:Int).toNat<=_;omega,fun bg nbg=>?_⟩;refine hid fun Z_ z_=>?_;have s1':=s1.trans (zK (o:=.lst [.ref A.zAV]) nl0);have hp1:=hp.mono (zK (o:=.lst [.ref A.zAV]) nl0);obtain ⟨dx,pl,vs0,g1,⟨mvs,g2,_⟩,g3,_,g5,_⟩:=hp1.at_;have nbg0:=s1'.free nbg;have bgk:bg≠kp:=fun z=>by rw [z,g5] at nbg;cases nbg
   have bgm:bg≠mv:=fun z=>by rw [z,g2] at nbg;cases nbg
   have bgp:bg≠p:=fun z=>by rw [z,g1] at nbg;cases nbg
   have bgt:bg≠td:=fun z=>by rw [z,g3] at nbg;cases nbg
   obtain ⟨I,hI⟩ : ∃ I:Nat->List (Option V)->Hp->Prop,I=fun i Z H'=>∃ (v4:Option V),Z=[some (.ref a),some (.int m),some (.ref p),some (.ref bg),v4,none,none,none]/\zz H H'/\jo K A H' p kp mv td m (zT m (L.take i))/\Pts K H' bg (zQ8 m (zY m (L.take i))):=⟨_,rfl⟩;refine z_ ?_;clear z_;refine ⟨_,rfl,a,rfl,⟨_,SqL.of (zK nbg _ _ (s1' _ _ ha))⟩,zEm (xs:=L.map V.int) I ?_ ?_ ?_ ?_⟩
   . rw [hI];refine ⟨none,rfl,s1'.trans (zK nbg),hp1.mono (zK nbg),_,zB,?_⟩;show Paired _ _ (zQ8 m []);rw [zUa,show ((m:Nat):Int).toNat=m by omega];exact zKn ⟨_,rfl,T.zAb _⟩ m
   . intro i Z H' hi h;rw [hI] at h;obtain ⟨v4,rfl,sm,_⟩:=h;exact SqL.of (sm _ _ ha)
   . intro i x Z H' hx h;rw [hI] at h;obtain ⟨v4,rfl,sm,hp',ws,hbg,hps⟩:=h;refine hid fun Z_ z_=>?_;obtain ⟨c,hc,rfl⟩:=int_at hx;have hi:i < L.length:=(List.getElem?_eq_some_iff.mp hc).1;have el:(L.take i).length=i:=by rw [List.length_take];omega
     have es:=zAl m (L.take i) c;rw [<- zC8 hc,el] at es;obtain ⟨dx1,pl1,vs1,h1,h2,h3,h4,h5,h6⟩:=hp'.at_;refine z_ ?_;clear z_;have ht:=(zDt hm (L.take i)).tn;have fin:∀ {H3:Hp}{R:VK},zz H H3->jo K A H3 p kp mv td m (zT m (L.take i))->Pts K H3 bg (zQ8 m (zY m (L.take (i+1))))->
         (∀ H4,zz H H4->jo K A H4 p kp mv td m (zT m (L.take (i+1)))->Pts K H4 bg (zQ8 m (zY m (L.take (i+1))))->R .non H4)->zGI K A [.ref p,.int c] H3 R E0:=by
       rintro H3 R sm3 hp3 ⟨us,e1,e2⟩ q;exact zEM hp3 hm hL hz hc fun H4 fr hp4=>q H4 (zG7 sm3 np nk fr) hp4 ⟨us,fr _ _ bgp bgk e1,Paired.zFH e2 fun _ _ z=>z.move fun _ _ y=>zNS hp3 fr y⟩
     walk_at "ee";refine ⟨c,rfl,j9 c,rfl,?_⟩;by_cases c1:j9 c=true
     . rw [if_pos c1];refine hid fun Z_ z_=>?_;rw [if_pos c1] at es;obtain ⟨v,e1,r,rfl,e2⟩:=qx hps (zLu (zY m (L.take i)) ht);refine z_ ?_;clear z_;have hwl:ws.length=m:=by rw [Paired.length hps,zGK]
       refine ⟨_,_,_,h1,T.qK,T.jQ,_,rfl,ws,((zT m (L.take i)).turn:Nat),rfl,SqL.of hbg,_,Zw e1,_,_,_,h1,T.qK,T.zt,_,rfl,r,pl1,_,_,rfl,e2,h4,fun t H3 s3 e3=>?_⟩;refine hid fun Z_ z_=>?_;have hbg3:=s3 _ _ hbg;have hp3:=(hp'.mono s3).off (o:=.lst (ws.set (zT m (L.take i)).turn (.ref t))) hbg3 (fun _=>zEJ) bgp bgk bgm bgt;obtain ⟨dx3,pl3,vs3,gg1,_⟩:=hp3.at_;refine z_ ?_;clear z_;refine ⟨_,_,_,s3 _ _ h1,T.qK,T.jQ,_,rfl,ws,((zT m (L.take i)).turn:Nat),rfl,hbg3,(zT m (L.take i)).turn,zWR (by omega),_,_,gg1,rfl,fin (jY (sm.trans s3) nbg0) hp3 ?_ fun H4 t1 t2 t3=>by rw [hI];exact ⟨_,rfl,t1,t2,t3⟩⟩;rw [es,zTG];exact ⟨_,zB,zKm ⟨t,rfl,QK (SqT.of e3) hbg3 fun _=>zEJ⟩ _ (Paired.zFH hps fun _ _ z=>(z.mono s3).off hbg3 fun _=>zEJ)⟩
     . rw [if_neg c1];rw [if_neg c1,List.append_nil] at es;exact ⟨_,_,h1,rfl,fin sm hp' (by rw [es];exact ⟨ws,hbg,hps⟩) fun H4 t1 t2 t3=>by rw [hI];exact ⟨_,rfl,t1,t2,t3⟩⟩
   . intro Z H' h;rw [hI] at h;obtain ⟨v4,rfl,sm,hp',hpts⟩:=h;refine hid fun Z_ z_=>?_;rw [List.length_map,List.take_length] at hpts;obtain ⟨ws,hbg,hps⟩:=hpts;obtain ⟨dx1,pl1,vs1,h1,⟨mws,h2,h2'⟩,h3,h4,h5,h6⟩:=hp'.at_;refine z_ ?_;clear z_;have hwl:ws.length=m:=by rw [Paired.length hps,zGK]
     walk_at "ee";refine ⟨_,rfl,bg,_,rfl,SqL.of hbg,zLM (xs:=ws) (fun i Z H2=>∃ (v6 v7:Option V)(x:Addr),Z=[some (.ref a),some (.int m),some (.ref p),some (.ref bg),v4,some (.ref x),v6,v7]/\zz H' H2/\SqT K H2 x (zQc (fun t=>jU m (bkt (zY m L) t) (pw m t)) i).vs) ?_ ?_ ?_ ?_⟩
     . exact ⟨none,none,_,rfl,fun _ _ e=>e,T.zAb _⟩
     . rintro i Z H2 hi ⟨v6,v7,x,rfl,sm2,_⟩;exact SqL.of (sm2 _ _ hbg)
     . rintro i x Z H2 tt hx ⟨v6,v7,px,rfl,sm2,hsq⟩ nt;refine hid fun Z_ z_=>?_;have hi:i < m:=by have:=(List.getElem?_eq_some_iff.mp hx).1;omega
       have s3:=zK (o:=.tup [.int (i:Nat),x]) nt;obtain ⟨v,e1,r,rfl,e2⟩:=qx hps (zLu (zY m L) hi);rw [hx] at e1;obtain rfl:=Option.some.inj e1;obtain ⟨v',f1,r',rfl,f2⟩:=qx h2' (zNQ (m:=m) hi);refine z_ ?_;clear z_;have sA:=sm2.trans s3;walk_at "ee";refine ⟨_,SqT.of zB,rfl,_,_,rfl,_,_,rfl,rfl,_,_,_,sA _ _ h1,T.qK,T.JA,_,rfl,mv,rfl,mws,_,rfl,SqL.of (sA _ _ h2),_,Zw f1,r,r',_,_,m,rfl,ze e2 sA,ze f2 sA,hm,(zUG hm hz i).mono (by decide),fun t1 H3 s4 q1=>⟨px,t1,_,_,rfl,ze hsq (s3.trans s4),SqT.of q1,fun t2 H4 s5 q2=>?_⟩⟩;rw [zF8];exact ⟨_,_,t2,⟨rfl,rfl,rfl⟩,sA.trans (s4.trans s5),SqT.of q2⟩
     . rintro Z H2 ⟨v6,v7,x,rfl,sm2,hsq⟩;walk_at "ee";rw [hwl] at hsq;exact k x H2 (sm.trans sm2) hsq
end
def keyOf (a:Pt):List Key:=[Sum.inl a.x0,Sum.inl a.x1,Sum.inl a.x2,Sum.inl a.x3]
theorem zEN {a b:Pt}(h:keyOf a=keyOf b):a=b:=by unfold keyOf at h;simp only [List.cons.injEq,Sum.inl.injEq,and_true] at h;exact Pt.ext' h.1 h.2.1 h.2.2.1 h.2.2.2
theorem zCN (xs:List zQR)(k k' : List Key)(p:Addr×Value):atKey (xs ++ [(k,p)]) k' = match atKey xs k' with
   | some q=>some q
   | none=>if k=k' then some p else none:=by
 unfold atKey;rw [List.find?_append];cases xs.find? fun x=>decide (x.1=k') with
 | some q=>rfl
 | none =>
   simp only [Option.map_none,Option.none_or,List.find?_cons,List.find?_nil];by_cases h:k=k'
   . simp [h]
   . simp [h]
def zVP (xs:List zQR)(l:List Stp):Prop:=∀ a:Pt,match Q2 l a with
 | some i=>∃ p,atKey xs (keyOf a)=some p/\∃ t,p.2=Value.int (i:Nat) t
 | none=>atKey xs (keyOf a)=none
theorem zVP.nil:zVP [] []:=fun a=>rfl
theorem zVP.one {xs:List zQR}{l:List Stp}(h:zVP xs l){x:Stp}{pa pb:Addr}{ua ub:Value}(nb:Q2 l x.2.2=none)(ne:x.2.1.pos≠x.2.2)(hua:∃ t,ua=Value.int (x.1:Nat) t)(hub:∃ t,ub=Value.int (x.1:Nat) t) : (∀ q,atKey xs (keyOf x.2.1.pos)=some q->zVP (storedH xs (keyOf x.2.2) pb ub) (l ++ [x]))/\(atKey xs (keyOf x.2.1.pos)=none->zVP (storedH (xs ++ [(keyOf x.2.1.pos,pa,ua)]) (keyOf x.2.2) pb ub) (l ++ [x])):=by
 have hb:atKey xs (keyOf x.2.2)=none:=by have:=h x.2.2;rw [nb] at this;exact this
 refine ⟨fun q hq a=>?_,fun hn a=>?_⟩
 . rw [zHL,storedH_new hb,zCN];have ha:=h a;cases e:Q2 l a with
   | some i =>rw [e] at ha;obtain ⟨p,e1,e2⟩:=ha;simp only [e1];exact ⟨p,rfl,e2⟩
   | none =>
     rw [e] at ha;have ha:atKey xs (keyOf a)=none:=ha;simp only [ha];by_cases z:x.2.2=a
     . rw [if_pos (.inr z),if_pos (by rw [z])];exact ⟨_,rfl,hub⟩
     . have z1:x.2.1.pos≠a:=fun y=>by rw [y,ha] at hq;cases hq
       rw [if_neg (fun y=>y.elim z1 z),if_neg fun y=>z (zEN y)]
 . have hb2:atKey (xs ++ [(keyOf x.2.1.pos,pa,ua)]) (keyOf x.2.2)=none:=by
     rw [zCN,hb];simp only;rw [if_neg fun y=>ne (zEN y)]
   rw [zHL,storedH_new hb2,zCN,zCN];have ha:=h a;cases e:Q2 l a with
   | some i =>rw [e] at ha;obtain ⟨p,e1,e2⟩:=ha;simp only [e1];exact ⟨p,rfl,e2⟩
   | none =>
     rw [e] at ha;have ha:atKey xs (keyOf a)=none:=ha;simp only [ha];by_cases z1:x.2.1.pos=a
     . rw [if_pos (.inl z1),if_pos (by rw [z1])];exact ⟨_,rfl,hua⟩
     . rw [if_neg fun y=>z1 (zEN y)];simp only;by_cases z:x.2.2=a
       . rw [if_pos (.inr z),if_pos (by rw [z])];exact ⟨_,rfl,hub⟩
       . rw [if_neg (fun y=>y.elim z1 z),if_neg fun y=>z (zEN y)]
theorem zX4 {P:Program}{w:PySem.World}{a:Addr}{xs:List zQR}{ys:List V}:dX P w a xs≠.tup ys/\∀ q,dX P w a xs≠.frz q (.tup ys):=⟨fun z=>(by unfold dX at z;cases z),fun q z=>(by unfold dX at z;cases z)⟩
theorem zYs {m:Nat}(hm:m∈Trail.ROUNDS){t:Nat}(ht:t < m):pw m t≠Pt.zero:=by rcases qN hm with rfl | rfl | rfl | rfl | rfl | rfl | rfl <;> (revert t;decide)
theorem zWS {m:Nat}(hm:m∈Trail.ROUNDS){t:Nat}(ht:t < m)(a:Pt):a≠a.add (pw m t):=fun h=>zYs hm ht (by have h0:=congrArg Pt.x0 h;have h1:=congrArg Pt.x1 h;have h2:=congrArg Pt.x2 h;have h3:=congrArg Pt.x3 h;unfold Pt.add at h0 h1 h2 h3;simp only at h0 h1 h2 h3;apply Pt.ext' <;> simp only [Pt.zero] <;> omega)
def zWT (m:Nat)(L:List Int)(n:Nat):List Int:=match zCj [] ((zY m L).take n) with
 | some x=>[(x.1:Int),(x.2:Int)]
 | none=>[]
theorem zWU {m:Nat}{s:QE}{c:Int}(h:j9 c=true):(s.sign m c).pos=s.pos.add (pw m s.turn):=by unfold QE.sign;rw [if_pos (zLU h),if_pos h]
section
inductive zHj (K:Fg)(A:Ad)(vs:List V)(H:Hp)(Q:VK)(E:XK):Prop | m (a:Addr)(L:List Int)(m n:Nat)(_:vs=[.ref a,.int m,.int n])(_:H a=some (.lst (L.map V.int)))(_:m∈Trail.ROUNDS)(_:zEL L)(_:L.length<=100000)(_:∀ r H',zz H H'->H r=none->H' r=some (.lst ((zWT m L n).map V.int))->Q (.ref r) H')
theorem zHk (T:Txt K mg A):qM P w K mg base CX0 6 A.jv A.QU ["signs","turns","most"] (zHj K A):=by
 refine T.j6.okc qy fun vs H Q E h=>?_
 . obtain ⟨a,L,m,n,rfl,ha,hm,hL,hz,k⟩:=h;refine ⟨rfl,fun _ _ _ _ hr=>⟨_,(zC (sA 3 qy.nd (zBi T.zOY (zAy T) (hr.mono (by decide)) rfl T.zOX (bd2 T.Z9) .nil zBj (zA (pv 1) zD))) (zC (sA 4 qy.nd zTy) (zC (JZ PassesOwn.never rfl (zLD rfl T.j7 (zA (pv 0) zD)) (zJ8 rfl (Zk (z8 (i:=5) qy.nd rfl (Or.inl rfl)) (Zk (z8 (i:=6) qy.nd rfl (Or.inl rfl)) zGg))) (zC (sA 7 qy.nd (zU (pv 3) rfl)) (zC (z7 (mA (pv 3) T.qK T.j5 (QL T) hr (bd2 T.jV) (zA (pv 6) zD))) (zC (z6 (zS zP6 (zU (pv 3) rfl) (pv 2) (zX _)) (zE (zN (qY zD))) zR) (zE (z6 (qQ (cA (zAf T) hr T.Jr T.qk (bd1 T.qk) (zA (pv 6) zD)) (fun _=>rfl)) (zC (z6 (zOm (zVv (zAF hr) (zU (pv 3) rfl) (pv 4))) (zE (zN (qY (zA (zTz (zAF hr) (pv 4) (zU (pv 3) rfl) (fun _ _=>rfl)) (zA (pv 5) zD))))) zR) (zC (z7 (zT1 (zAF hr) (pv 4) (pv 7) (pv 5) (by constructor <;> rfl))) (zE (zT0 (zAF hr) (pv 4) (zU (pv 3) rfl) (pv 5) rfl)))) zR)))))) (zE (zN (qY zD)))))),?_⟩⟩;show Zv _ _ _ [some (.ref a),some (.int m),some (.int n),none,none,none,none,none] H;have big:=sizeLine_eq;walk_at "ee";refine fun p dp np ndp npd=>zGJ hm np ndp npd fun kp mv td H1 s1 nk nmv ntd hp=>fun d nd=>?_;refine hid fun Z_ z_=>?_;obtain ⟨dx,pl,vs0,g1,⟨mvs,g2,_⟩,g3,_,g5,_⟩:=hp.at_;have nd0:=s1.free nd;have dk:d≠kp:=fun z=>by rw [z,g5] at nd;cases nd
   have dm:d≠mv:=fun z=>by rw [z,g2] at nd;cases nd
   have dnp:d≠p:=fun z=>by rw [z,g1] at nd;cases nd
   have dt:d≠td:=fun z=>by rw [z,g3] at nd;cases nd
   obtain ⟨I,hI⟩ : ∃ I:Nat->List (Option V)->Hp->Prop,I=fun i Z H'=>∃ (v5 v6 v7:Option V)(xs:List zQR),Z=[some (.ref a),some (.int m),some (.int n),some (.ref p),some (.ref d),v5,v6,v7]/\zz H H'/\jo K A H' p kp mv td m (zT m (L.take i))/\H' d=some (dX P w d xs)/\zMi K H' xs/\zVP xs (zY m (L.take i))/\xs.length<=2 * (zY m (L.take i)).length/\(zY m (L.take i)).length<=n/\zCj [] (zY m (L.take i))=none:=⟨_,rfl⟩;refine z_ ?_;clear z_;refine ⟨_,rfl,a,_,rfl,SqL.of (zK nd _ _ (s1 _ _ ha)),zLM (xs:=L.map V.int) I ?_ ?_ ?_ ?_⟩
   . rw [hI];exact ⟨none,none,none,[],rfl,s1.trans (zK nd),hp.mono (zK nd),zB,fun q hq=>(by cases hq),zVP.nil,Nat.zero_le _,Nat.zero_le _,rfl⟩
   . intro i Z H' hi h;rw [hI] at h;obtain ⟨v5,v6,v7,xs,rfl,sm,_⟩:=h;exact SqL.of (sm _ _ ha)
   . intro i x Z H' tt hx h nt;rw [hI] at h;obtain ⟨v5,v6,v7,xs,rfl,sm,hp',hd,hkx,hrel,hxl,hle,hnone⟩:=h;refine hid fun Z_ z_=>?_;obtain ⟨c,hc,rfl⟩:=int_at hx;have hi:i < L.length:=(List.getElem?_eq_some_iff.mp hc).1;have s2:=zK (o:=.tup [.int (i:Nat),V.int c]) nt;have hp2:=hp'.mono s2;obtain ⟨dx1,pl1,vs1,h1,h2,h3,h4,h5,h6⟩:=hp2.at_;have el:(L.take i).length=i:=by rw [List.length_take];omega
     have es:=zAl m (L.take i) c;rw [<- zC8 hc,el] at es;obtain ⟨tl,etl⟩:=zI3 m L (i+1);refine z_ ?_;clear z_;have hs0:(zY m (L.take (i+1))).length<=100000:=by have:=zDu m (L.take (i+1)) ZG 0;rw [List.length_take] at this;unfold zY;omega
     walk_at "ee";refine ⟨_,SqT.of zB,rfl,_,_,rfl,_,_,rfl,rfl,_,_,_,h1,T.qK,T.zt,_,rfl,_,_,h1,rfl,zEM hp2 hm hL hz hc fun H3 fr hp3=>?_⟩;refine hid fun Z_ z_=>?_;have sm3:=zG7 (sm.trans s2) np nk fr;have hd3:=fr _ _ dnp dk (s2 _ _ hd);have hk3:zMi K H3 xs:=fun q hq=>zNS hp2 fr (ze (hkx q hq) s2);have h43:=zNS hp2 fr h4;obtain ⟨dx3,pl3,vs3,q1,q2,q3,q4,q5,q6⟩:=hp3.at_;refine z_ ?_;clear z_;refine ⟨_,_,_,q1,T.qK,T.JB,_,rfl,((zT m (L.take (i+1))).drawn:Nat),rfl,?_⟩;rw [zSe];have nocap:j9 c≠true->zY m (L.take (i+1))=zY m (L.take i):=fun z=>by rw [es,if_neg z,List.append_nil]
     by_cases c0:n < (zY m (L.take (i+1))).length
     . rw [if_pos (by simp;omega)];refine ⟨Nat.zero_le _,fun r nr=>k r _ (sm3.trans (zK nr)) (sm3.free nr) ?_⟩;rw [zB];have hcap:j9 c=true:=by
         by_cases z:j9 c=true
         . exact z
         . rw [nocap z] at c0;omega
       rw [if_pos hcap] at es;have hn:(zY m (L.take i)).length=n:=by rw [es,List.length_append] at c0;have:([(i,zT m (L.take i),(zT m (L.take (i+1))).pos)]:List Stp).length=1:=rfl;omega
       unfold zWT;rw [etl,es,List.append_assoc,<- hn,List.take_left,hnone];rfl
     . rw [if_neg (by simp;omega)];refine ⟨c,rfl,j9 c,rfl,?_⟩;by_cases c1:j9 c=true
       . rw [if_pos c1];rw [if_pos c1] at es;have hpos:(zT m (L.take (i+1))).pos=(zT m (L.take i)).pos.add (pw m (zT m (L.take i)).turn):=by rw [zC8 hc,zCi,zWU c1]
         have hr3:=hrel (zT m (L.take (i+1))).pos;refine ⟨_,_,_,q1,T.qK,T.zt,_,rfl,pl3,rfl,xs,hd3,hk3,keyOf (zT m (L.take (i+1))).pos,q4,?_⟩;cases ef:Q2 (zY m (L.take i)) (zT m (L.take (i+1))).pos with
         | some j =>
           refine hid fun Z_ z_=>?_;rw [ef] at hr3;obtain ⟨pv',e1,tk,e2⟩:=hr3;refine z_ ?_;clear z_;rw [if_pos (by rw [e1];rfl)];refine ⟨_,_,_,q1,T.qK,T.zt,_,rfl,pl3,rfl,xs,hd3,hk3,keyOf (zT m (L.take (i+1))).pos,q4,pv',e1,.int (j:Nat),⟨tk,e2⟩,by show 2<=sizeLine;omega,fun r nr=>k r _ (sm3.trans (zK nr)) (sm3.free nr) ?_⟩;rw [zB];have hlen:(zY m (L.take i)).length+1<=n:=by have:=congrArg List.length es;rw [List.length_append] at this;have h1:([(i,zT m (L.take i),(zT m (L.take (i+1))).pos)]:List Stp).length=1:=rfl;omega
           have eT:(zY m L).take n=zY m (L.take i) ++ (i,zT m (L.take i),(zT m (L.take (i+1))).pos) :: tl.take (n - (zY m (L.take i)).length - 1):=by rw [etl,es,List.append_assoc,List.take_append,List.take_of_length_le (by omega)];congr 1;rw [show n - (zY m (L.take i)).length=(n - (zY m (L.take i)).length - 1)+1 by omega];rfl
           unfold zWT;rw [eT,zN5 _ _ _ hnone ef];rfl
         | none =>
           rw [ef] at hr3;have hr3:atKey xs (keyOf (zT m (L.take (i+1))).pos)=none:=hr3;rw [if_neg (by rw [hr3];decide)];have hra:=hrel (zT m (L.take i)).pos;have hlt:xs.length+2<=2 * (zY m (L.take (i+1))).length:=by rw [es,List.length_append];have h1:([(i,zT m (L.take i),(zT m (L.take (i+1))).pos)]:List Stp).length=1:=rfl;omega
           have hle' : (zY m (L.take (i+1))).length<=n:=(by omega);have hmt:zCj [] (zY m (L.take (i+1)))=none:=by rw [es,zKV _ _ hnone];show (Q2 _ (zT m (L.take (i+1))).pos).map _=none;rw [ef];rfl
           have hne:(zT m (L.take i)).pos≠(zT m (L.take (i+1))).pos:=by rw [hpos];exact zWS hm (zDt hm _).tn _
           have one:∀ {pa pb:Addr}{ua ub:Value},(∃ t,ua=Value.int (i:Nat) t)->(∃ t,ub=Value.int (i:Nat) t)->_:=fun {pa pb ua ub} h1 h2=>hrel.one (x:=(i,zT m (L.take i),(zT m (L.take (i+1))).pos)) (pa:=pa) (pb:=pb) (ua:=ua) (ub:=ub) ef hne h1 h2;have offP:∀ {ys:List zQR},jo K A (upd H3 d (dX P w d ys)) p kp mv td m (zT m (L.take (i+1))):=fun {ys}=>hp3.off hd3 (fun _=>zX4) dnp dk dm dt;have offT:∀ {ys:List zQR}{b:Addr}{vs:List V},SqT K H3 b vs->SqT K (upd H3 d (dX P w d ys)) b vs:=fun {ys b vs} z=>QK z hd3 fun _=>zX4;refine ⟨⟨xs,hd3⟩,pl1,rfl,xs,hd3,hk3,keyOf (zT m (L.take i)).pos,h43,by omega,fun q hq=>?_,fun hq u hu=>?_⟩
           . cases ea:Q2 (zY m (L.take i)) (zT m (L.take i)).pos with
             | none=>rw [ea] at hra;have hra:atKey xs (keyOf (zT m (L.take i)).pos)=none:=hra;rw [hra] at hq;cases hq
             | some j =>
               refine hid fun Z_ z_=>?_;rw [ea] at hra;obtain ⟨q',f1,tk,f2⟩:=hra;rw [hq] at f1;obtain rfl:=Option.some.inj f1;refine z_ ?_;clear z_;refine ⟨.int (j:Nat),⟨tk,f2⟩,_,_,_,q1,T.qK,T.zt,_,rfl,pl3,rfl,xs,hd3,hk3,keyOf (zT m (L.take (i+1))).pos,q4,by omega,fun u hu=>?_⟩;have hnew:=storedH_new hr3 pl3 u;rw [hI];refine ⟨_,_,_,_,rfl,jY sm3 nd0,offP,zB,?_,?_,?_,hle',hmt⟩
               . rw [hnew];intro q hq;rcases List.mem_append.mp hq with hq | hq
                 . exact offT (hk3 q hq)
                 . rw [List.mem_singleton.mp hq];exact offT q4
               . rw [es];exact (one (pa:=pl1) (ua:=u) hu hu).1 _ hq
               . rw [hnew,List.length_append];show _+1<=_;omega
           . refine hid fun Z_ z_=>?_;have hk4:zMi K (upd H3 d (dX P w d (xs ++ [(keyOf (zT m (L.take i)).pos,pl1,u)]))) (xs ++ [(keyOf (zT m (L.take i)).pos,pl1,u)]):=fun q hq=>by
               rcases List.mem_append.mp hq with hq | hq
               . exact offT (hk3 q hq)
               . rw [List.mem_singleton.mp hq];exact offT h43
             have hb2:atKey (xs ++ [(keyOf (zT m (L.take i)).pos,pl1,u)]) (keyOf (zT m (L.take (i+1))).pos)=none:=by rw [zCN,hr3];simp only;rw [if_neg fun y=>hne (zEN y)]
             obtain ⟨dx5,pl5,vs5,gg1,_⟩:=(offP (ys:=xs ++ [(keyOf (zT m (L.take i)).pos,pl1,u)])).at_;refine z_ ?_;clear z_;have q1' : (upd H3 d (dX P w d (xs ++ [(keyOf (zT m (L.take i)).pos,pl1,u)]))) p=some (.ins A.Q5 dx3 (zQ3 mv td pl3 kp (zT m (L.take (i+1))).turn (zT m (L.take (i+1))).drawn (zT m (L.take (i+1))).letters)):=by rw [zF (Ne.symm dnp)];exact q1
             refine ⟨_,_,_,q1',T.qK,T.zt,_,rfl,pl3,rfl,_,zB,hk4,keyOf (zT m (L.take (i+1))).pos,offT q4,by rw [List.length_append];show _+1 < _;omega,fun u2 hu2=>?_⟩;have hnew:=storedH_new hb2 pl3 u2;rw [z5];rw [hI];refine ⟨_,_,_,_,rfl,jY sm3 nd0,offP,zB,?_,?_,?_,hle',hmt⟩
             . rw [hnew];intro q hq;rcases List.mem_append.mp hq with hq | hq
               . rcases List.mem_append.mp hq with hq | hq
                 . exact offT (hk3 q hq)
                 . rw [List.mem_singleton.mp hq];exact offT h43
               . rw [List.mem_singleton.mp hq];exact offT q4
             . rw [es];exact (one hu hu2).2 hq
             . rw [hnew,List.length_append,List.length_append];show _+1+1<=_;omega
       . rw [if_neg c1];have e:=nocap c1;rw [hI];exact ⟨_,_,_,xs,rfl,sm3,hp3,hd3,hk3,by rw [e];exact hrel,by rw [e];exact hxl,by rw [e];exact hle,by rw [e];exact hnone⟩
   . intro Z H' h;rw [hI] at h;obtain ⟨v5,v6,v7,xs,rfl,sm,hp',hd,hkx,hrel,hxl,hle,hnone⟩:=h;rw [List.length_map,List.take_length] at hle hnone;walk_at "ee";refine ⟨Nat.zero_le _,fun r nr=>k r _ (sm.trans (zK nr)) (sm.free nr) ?_⟩;rw [zB];unfold zWT;rw [List.take_of_length_le hle,hnone];rfl
end
theorem zPv {K:Fg}{H:Hp}{q:Addr}{xs:List V}{i:Int}{v:V}{Q:VK}(h:SqT K H q xs\/SqL K H q xs)(e:atI xs i=some v)(k:Q v H):rIx K (.ref q) (.int i) H Q:=by
 rcases h with h | h
 . exact .inr (.inl ⟨q,xs,i,v,rfl,rfl,h,e,k⟩)
 . exact .inl ⟨q,xs,i,v,rfl,rfl,h,e,k⟩
section
inductive zEx (K:Fg)(vs:List V)(H:Hp)(Q:VK)(E:XK):Prop | m (p q:Addr)(a b:Pt)(_:vs=[.ref p,.ref q])(_:SqT K H p a.vs)(_:(SqT K H q b.vs\/SqL K H q b.vs))(_:Bd 1000 b)(_:Q (.int (zo a b)) H)
theorem zYM {n x:Int}(h : -1000<=n/\n<=1000):zUj x n:=.inr ⟨by omega,by omega⟩
theorem zEy (T:Txt K mg A):qM P w K mg base CX0 1 A.zEY A.zGU ["a","weights"] (zEx K):=by
 refine T.j4.okc zQl fun vs H Q E h=>?_
 . obtain ⟨p,q,a,b,rfl,ha,hb,bd,k⟩:=h;refine ⟨rfl,fun _ _ _ s hr=>⟨_,(zE (zN (z9 ZK (z9 ZK (z9 ZK (z9 zDb (ixT (pv 0) zM) (zQD zOx (pv 1) zM (fun _ _=>rfl))) (z9 zDb (ixT (pv 0) zM) (zQD zOx (pv 1) zM (fun _ _=>rfl)))) (z9 zDb (ixT (pv 0) zM) (zQD zOx (pv 1) zM (fun _ _=>rfl)))) (z9 zDb (ixT (pv 0) zM) (zQD zOx (pv 1) zM (fun _ _=>rfl)))))),?_⟩⟩;show zHD _ _ [some (.ref p),some (.ref q)] H;walk_at "ee";refine hid fun Z_ z_=>?_;obtain ⟨b0,b1,b2,b3⟩:=bd;refine z_ ?_;clear z_;refine ⟨_,ha,_,rfl,zPv hb rfl ⟨_,rfl,_,rfl,zYM b0,_,ha,_,rfl,zPv hb rfl ⟨_,rfl,_,rfl,zYM b1,_,ha,_,rfl,zPv hb rfl ⟨_,rfl,_,rfl,zYM b2,_,ha,_,rfl,zPv hb rfl ⟨_,rfl,_,rfl,zYM b3,k⟩⟩⟩⟩⟩
inductive zUb (vs:List V)(H:Hp)(Q:VK)(E:XK):Prop | m (p q s:Int)(_:vs=[.int p,.int q,.int s])(_:(-1000000000000<=p/\p<=1000000000000))(_:(-1000000000000<=q/\q<=1000000000000))(_:(-1000<=s/\s<=1000))(_:Q (.bl (zMv p q s)) H)
theorem zLx (T:Txt K mg A):qM P w K mg base CX0 1 A.Jh A.zBS ["p","q","square"] zUb:=by
 refine T.Ju.okc zLX fun vs H Q E h=>?_
 . obtain ⟨p,q,s,rfl,hp,hq,hs,k⟩:=h;refine ⟨rfl,fun _ _ _ _ hr=>⟨_,(zE (zN (zBh zP6 (z9 ZK (z9 zDb (pv 0) (zd zOs (by rfl) T.zUf (by decide +kernel) (zA (pv 0) zD))) (z9 zDb (z9 zDb (pv 1) (zd zOs (by rfl) T.zUf (by decide +kernel) (zA (pv 1) zD))) (pv 2))) zM (zX _)))),?_⟩⟩;show zHD _ _ [some (.int p),some (.int q),some (.int s)] H;walk_at "ee";have ea:∀ x:Int,(if x < 0 then -x else x)=((x.natAbs:Nat):Int):=fun x=>by split <;> omega
   rw [ea,ea];refine ⟨.inl ⟨by omega,by omega⟩,.inl ⟨by omega,by omega⟩,.inr ⟨by omega,by omega⟩,?_⟩;exact k
def zOR (A:Ad)(H:Hp)(o:Addr)(m d:Nat):Prop:=∃ dx wl rl,H o=some (.ins A.jB dx [("wholes",.ref wl),("roots",.ref rl),("square",.int (SQ m))])/\H wl=some (.lst (zU9 m d (WH m)).vs)/\H rl=some (.lst (zU9 m d (RT m)).vs)
theorem zOR.mono {H H' : Hp}{o:Addr}{m d:Nat}(h:zOR A H o m d)(s:zz H H'):zOR A H' o m d:=let ⟨dx,wl,rl,h1,h2,h3⟩:=h;⟨dx,wl,rl,s _ _ h1,s _ _ h2,s _ _ h3⟩
theorem zYt {m:Nat}(h:m∈Trail.ROUNDS):((m:Int),(WH m).l)∈([(3,[2,-1,0,0]),(4,[1,0,0,0]),(5,[4,-1,-1,-1]),(6,[2,1,0,0]),(8,[2,0,0,0]),(10,[4,1,-1,1]),(12,[2,0,1,0])]:RL):=by rcases qN h with rfl | rfl | rfl | rfl | rfl | rfl | rfl <;> decide
theorem zYu {m:Nat}(h:m∈Trail.ROUNDS):((m:Int),(RT m).l)∈([(3,[0,0,0,0]),(4,[0,0,0,0]),(5,[0,1,-1,-1]),(6,[0,0,0,0]),(8,[0,1,0,-1]),(10,[0,1,1,-1]),(12,[0,1,0,0])]:RL):=by rcases qN h with rfl | rfl | rfl | rfl | rfl | rfl | rfl <;> decide
theorem zYv {m:Nat}(h:m∈Trail.ROUNDS):((m:Int),SQ m)∈([(3,1),(4,1),(5,5),(6,1),(8,2),(10,5),(12,3)]:List (Int×Int)):=by rcases qN h with rfl | rfl | rfl | rfl | rfl | rfl | rfl <;> decide
theorem zWV {m:Nat}(h:m∈Trail.ROUNDS):Bd 4 (WH m):=by rw [zPY];rcases qN h with rfl | rfl | rfl | rfl | rfl | rfl | rfl <;> decide
theorem zWW {m:Nat}(h:m∈Trail.ROUNDS):Bd 4 (RT m):=by rw [zPY];rcases qN h with rfl | rfl | rfl | rfl | rfl | rfl | rfl <;> decide
theorem zYw {m:Nat}(h:m∈Trail.ROUNDS) : -1000<=SQ m/\SQ m<=1000:=by rcases qN h with rfl | rfl | rfl | rfl | rfl | rfl | rfl <;> decide
theorem zPw {x y N M:Int}(hx : -N<=x/\x<=N)(hy : -M<=y/\y<=M) : -(N * M)<=x * y/\x * y<=N * M:=by
 have hN:0<=N:=(by omega);have h1:(x * y).natAbs=x.natAbs * y.natAbs:=Int.natAbs_mul x y;have h2:x.natAbs * y.natAbs<=N.toNat * M.toNat:=Nat.mul_le_mul (by omega) (by omega);have h3:((N.toNat * M.toNat:Nat):Int)=N * M:=by rw [Int.natCast_mul,Int.toNat_of_nonneg hN,Int.toNat_of_nonneg (by omega)]
 omega
theorem zG8 {a b:Pt}{N M:Int}(ha:Bd N a)(hb:Bd M b) : -(4 * (N * M))<=zo a b/\zo a b<=4 * (N * M):=by obtain ⟨a0,a1,a2,a3⟩:=ha;obtain ⟨b0,b1,b2,b3⟩:=hb;have c0:=zPw a0 b0;have c1:=zPw a1 b1;have c2:=zPw a2 b2;have c3:=zPw a3 b3;unfold zo;omega
theorem zLy {m:Nat}(h:m∈Trail.ROUNDS)(d:Nat){b:Pt}(hb:Bd 4 b):Bd 16 (zU9 m d b):=by
 have f:∀ k,-16<=zo (pw m k) b/\zo (pw m k) b<=16:=fun k=>by have:=zG8 (zSf h k) hb;omega
 exact ⟨f _,f _,f _,f _⟩
inductive zLz (K:Fg)(A:Ad)(vs:List V)(H:Hp)(Q:VK)(E:XK):Prop | m (o p q:Addr)(a b:Pt)(m d:Nat)(_:vs=[.ref o,.ref p,.ref q])(_:zOR A H o m d)(_:m∈Trail.ROUNDS)(_:SqT K H p a.vs)(_:SqT K H q b.vs)(_:Bd 1000000 a)(_:Bd 1000000 b)(_:∀ H',zz H H'->Q (.bl (zDc m d a b)) H')
theorem zEO (T:Txt K mg A):qM P w K mg base CX0 3 A.qV A.jI ["self","a","b"] (zLz K A):=by
 refine T.jJ.okc Jd fun vs H Q E h=>?_
 . obtain ⟨o,p,q,a,b,m,d,rfl,ho,hm,ha,hb,ba,bb,k⟩:=h;refine ⟨rfl,fun _ _ _ _ hr=>⟨_,(zC (sA 3 Jd.nd (cA (zPr T) hr T.zL8 T.zFj (bd2 T.zFj) (zA (pv 1) (zA (pv 2) zD)))) (zE (zN (cA (zLx T) hr T.zEd T.Ju (bd3 T.Ju) (zA (cA (zEy T) hr T.zCW T.j4 (bd2 T.j4) (zA (pv 3) (zA (zU (pv 0) rfl) zD))) (zA (cA (zEy T) hr T.zCW T.j4 (bd2 T.j4) (zA (pv 3) (zA (zU (pv 0) rfl) zD))) (zA (zU (pv 0) rfl) zD))))))),?_⟩⟩;show Zv _ _ _ [some (.ref o),some (.ref p),some (.ref q),none] H;walk_at "ee";refine ⟨p,q,a,b,rfl,ha,hb,fun t H1 s1 ht=>?_⟩;refine hid fun Z_ z_=>?_;obtain ⟨dx,wl,rl,h1,h2,h3⟩:=ho.mono s1;refine z_ ?_;clear z_;have bs:Bd 2000000 (a.sub b):=by
     unfold Bd Pt.sub Pt.add Pt.mul at *;simp only;omega
   have w1:=zG8 bs (zLy hm d (zWV hm));have w2:=zG8 bs (zLy hm d (zWW hm));refine ⟨_,_,_,h1,T.Qx,T.Zt,_,rfl,t,wl,a.sub b,_,rfl,SqT.of ht,.inr (SqL.of h2),(zLy hm d (zWV hm)).mono (by decide),?_⟩;refine ⟨_,_,_,h1,T.Qx,T.Qy,_,rfl,t,rl,a.sub b,_,rfl,SqT.of ht,.inr (SqL.of h3),(zLy hm d (zWW hm)).mono (by decide),?_⟩;exact ⟨_,_,_,h1,T.Qx,T.Zu,_,rfl,_,_,_,rfl,⟨by omega,by omega⟩,⟨by omega,by omega⟩,zYw hm,k _ s1⟩
end
section
def tbl (m d:Nat):List Pt:=(List.range 4).map fun k=>pw m (bk m d k)
theorem zX5 {m d i:Nat}(h:i < 4):(tbl m d)[i]? = some (pw m (bk m d i)):=by unfold tbl;rw [List.getElem?_map,List.getElem?_range h];rfl
theorem zPx {H:Hp}{Q:VK}{x0 x3:Option V}{m d:Nat}{D cD b:Addr}{W:Pt}(hm:m∈Trail.ROUNDS)(hp:Pts K H D (tbl m d))(kg:KG K cD (m:Int) (.ref b))(hb:∀ H,SqT K H b W.vs)(bW:Bd 4 W)(q:∀ r H',zz H H'->H r=none->H' r=some (.lst (zU9 m d W).vs)->Q (.ref r) H') : tLc (zW1 K (zFr 5)) (zE9 6) zTh (zJY (zEx K) [] E0 (zGj (zFr 6) (zGj (zR4 K (tC (V.ref cD)) (zFr 1)) zP8))) [6] [x0,some (.int m),some (.int d),x3,none,some (.ref D),none] H Q:=by
 have big:=sizeLine_eq;obtain ⟨vs,hD,hv⟩:=hp;have hl:vs.length=4:=by rw [Paired.length hv];rfl
 refine ⟨_,rfl,D,rfl,⟨_,SqL.of hD⟩,fun r nr=>?_⟩;refine zPu 4 (fun i H'=>zz H H'/\H' r=some (.lst ((List.range i).map fun k=>V.int (zo (pw m (bk m d k)) W)))) ⟨zK nr,by rw [zB];rfl⟩ (fun i H' hi ⟨sm,_⟩=>?_) (fun H' ⟨sm,_⟩=>⟨_,SqL.of (sm _ _ hD),by omega⟩) (fun i H' x H2 hi ⟨sm,hr⟩ hy=>?_) (fun H' ⟨sm,hr⟩=>q r H' sm nr hr)
 . exact ⟨vs,vs[i]'(by omega),SqL.of (sm _ _ hD),List.getElem?_eq_getElem (by omega)⟩
 . obtain ⟨v,e1,rr,rfl,e2⟩:=qx hv (zX5 (m:=m) (d:=d) hi);obtain ⟨rfl,hx⟩:=hy;have ex:=hx _ (SqL.of (sm _ _ hD));rw [e1] at ex;obtain rfl:=Option.some.inj ex;refine ⟨rfl,?_⟩;dsimp only [zTh];rw [if_pos rfl];refine ⟨_,rfl,_,rfl,cD,(m:Int),.ref b,rfl,rfl,kg,rr,b,_,W,rfl,ze e2 sm,.inl (hb _),bW.mono (by decide),_,hr,by rw [List.length_map,List.length_range];omega,jY sm nr,?_⟩;rw [zB,List.range_succ,List.map_append];rfl
theorem zWX {H:Hp}{Q:VK}{x0:Option V}{m d:Nat}{pp:Addr}(hm:m∈Trail.ROUNDS)(hp:Pts K H pp (pws m m))(q:∀ D H',zz H H'->H D=none->Pts K H' D (tbl m d)->Q (.ref D) H') : tLc (zW2 (zGj (tC (V.int 4)) zP8)) (zE9 4) zTh (tOp (zUm K) (zFr 3) (tOp (rI (fun _ j=>0 < j) fun i j=>V.int (i % j)) (tOp (rI0 fun i j=>V.int (i - j)) (zFr 4) (zFr 2)) (zFr 1))) [4] [x0,some (.int m),some (.int d),some (.ref pp),none,none,none] H Q:=by
 have m3:=zSY hm;have big:=sizeLine_eq;obtain ⟨pvs,hpv,hpp⟩:=hp;refine ⟨4,rfl,by decide,by decide,fun D nD=>?_⟩;refine zPu 4 (fun i H'=>zz H H'/\∃ vs,H' D=some (.lst vs)/\Paired (zTC K H') vs ((List.range i).map fun k=>pw m (bk m d k))) ⟨zK nD,_,zB,.nil⟩ (fun i H' hi _=>hi) (fun H' _=>Nat.le_refl _) (fun i H' x H2 hi ⟨sm,vs,hD,hv⟩ hy=>?_) (fun H' ⟨sm,hr⟩=>q D H' sm nD hr);obtain ⟨rfl,rfl⟩:=hy;have hvl:vs.length=i:=by rw [Paired.length hv,List.length_map,List.length_range]
 refine ⟨rfl,?_⟩;dsimp only [zTh];rw [if_pos rfl];have hb1:((0+(i:Int) - (d:Int)) % (m:Int))=((bk m d i:Nat):Int):=by unfold bk;rw [Int.zero_add,Int.toNat_of_nonneg (Int.emod_nonneg _ (by omega))]
 have hb2:bk m d i < m:=by have:=Int.emod_lt_of_pos ((i:Int) - (d:Int)) (show (0:Int) < m by omega);unfold bk;omega
 obtain ⟨v,e1,r,rfl,e2⟩:=qx hpp (zNQ (m:=m) hb2);refine ⟨_,rfl,_,rfl,_,rfl,_,_,rfl,rfl,_,rfl,_,_,rfl,rfl,by omega,pp,pvs,_,.ref r,rfl,rfl,SqL.of (sm _ _ hpv),by rw [hb1];exact Zw e1,_,hD,by omega,jY sm nD,_,zB,?_⟩;rw [List.range_succ,List.map_append];exact Paired.snoc (Paired.zFH hv fun _ _ z=>z.off hD fun _=>zEJ) ⟨r,rfl,QK (ze e2 sm) hD fun _=>zEJ⟩
inductive zEP (K:Fg)(A:Ad)(vs:List V)(H:Hp)(Q:VK)(E:XK):Prop | m (x dx:Addr)(m d:Nat)(_:vs=[.ref x,.int m,.int d])(_:H x=some (.ins A.jB dx []))(_:m∈Trail.ROUNDS)(_:∀ H',(∀ b o,b≠x->H b=some o->H' b=some o)->zOR A H' x m d->Q .non H')
theorem zI5 (T:Txt K mg A):qM P w K mg base CX0 4 A.ZQ A.JM ["self","turns","direction"] (zEP K A):=by
 refine T.JW.okc qO fun vs H Q E h=>?_
 . obtain ⟨x,dx,m,d,rfl,hx,hm,k⟩:=h;refine ⟨rfl,fun _ _ _ _ hr=>⟨_,(zC (sA 3 qO.nd (cA (zB0 T) hr T.Ql T.qW (bd1 T.qW) (zA (pv 1) zD))) (zC (zTi (i:=5) (g:=(zE9 4)) (tt:=zTh) (te:=(tOp (zUm K) (zFr 3) (tOp (rI (fun _ j=>0 < j) fun i j=>.int (i % j)) (tOp (rI0 fun i j=>.int (i - j)) (zFr 4) (zFr 2)) (zFr 1)))) (own:=[(("k" : Str),4)]) rfl qO.nd rfl rfl rfl (zMQ rfl T.zJT (zA zM zD)) ⟨rfl,by decide +kernel,(by show ∀ p∈[(("k" : Str),4)],(["self","turns","direction","powers","k","turned_back","power"]:List Str)[p.2]? = some p.1;decide +kernel),(by show ∀ y∈(_:List (Str×NameKind)),y.2=.free->(zH qH).names.lookup y.1=some .cell\/(zH qH).names.lookup y.1=some .free;decide +kernel),(by show ∀ y∈(_:List (Str×NameKind)),y.2=.local\/y.2=.cell->y.1∈[(("k" : Str),4)].map (·.1)\/y.1∉(["self","turns","direction","powers","k","turned_back","power"]:List Str);decide +kernel)⟩ (fun _ _ _ _ _=>(z8 (i:=4) qO.nd rfl (Or.inl rfl))) (fun _ _ _ _ _=>zK4) (fun _ _ _ _ _=>(ixL (pv 3) (z9 zOr (z9 zFs (pv 4) (pv 2)) (pv 1))))) (zC (jT (pv 0) (zRc (g:=(zE9 6)) (tt:=zTh) (te:=(zJY (zEx K) [] E0 (zGj (zFr 6) (zGj (zR4 K (tC (.ref A.zGW)) (zFr 1)) zP8)))) (own:=[(("power" : Str),6)]) rfl qO.nd (zDk (pv 5)) ⟨rfl,by decide +kernel,(by show ∀ p∈[(("power" : Str),6)],(["self","turns","direction","powers","k","turned_back","power"]:List Str)[p.2]? = some p.1;decide +kernel),(by show ∀ y∈(_:List (Str×NameKind)),y.2=.free->(zH qH).names.lookup y.1=some .cell\/(zH qH).names.lookup y.1=some .free;decide +kernel),(by show ∀ y∈(_:List (Str×NameKind)),y.2=.local\/y.2=.cell->y.1∈[(("power" : Str),6)].map (·.1)\/y.1∉(["self","turns","direction","powers","k","turned_back","power"]:List Str);decide +kernel)⟩ (fun _ _ _ _ _=>(z8 (i:=6) qO.nd rfl (Or.inl rfl))) (fun _ _ _ _ _=>zK4) (fun _ _ _ _ _=>(cA (zEy T) hr T.zCW T.j4 (bd2 T.j4) (zA (pv 6) (zA (zIH (Z1 rfl T.zMD) (pv 1) (fun _ _=>rfl)) zD))))) rfl) (zC (jT (pv 0) (zRc (g:=(zE9 6)) (tt:=zTh) (te:=(zJY (zEx K) [] E0 (zGj (zFr 6) (zGj (zR4 K (tC (.ref A.zJJ)) (zFr 1)) zP8)))) (own:=[(("power" : Str),6)]) rfl qO.nd (zDk (pv 5)) ⟨rfl,by decide +kernel,(by show ∀ p∈[(("power" : Str),6)],(["self","turns","direction","powers","k","turned_back","power"]:List Str)[p.2]? = some p.1;decide +kernel),(by show ∀ y∈(_:List (Str×NameKind)),y.2=.free->(zH qH).names.lookup y.1=some .cell\/(zH qH).names.lookup y.1=some .free;decide +kernel),(by show ∀ y∈(_:List (Str×NameKind)),y.2=.local\/y.2=.cell->y.1∈[(("power" : Str),6)].map (·.1)\/y.1∉(["self","turns","direction","powers","k","turned_back","power"]:List Str);decide +kernel)⟩ (fun _ _ _ _ _=>(z8 (i:=6) qO.nd rfl (Or.inl rfl))) (fun _ _ _ _ _=>zK4) (fun _ _ _ _ _=>(cA (zEy T) hr T.zCW T.j4 (bd2 T.j4) (zA (pv 6) (zA (zIH (Z1 rfl T.zOd) (pv 1) (fun _ _=>rfl)) zD))))) rfl) (zE (jT (pv 0) (zIH (Z1 rfl T.zJR) (pv 1) (fun _ _=>rfl)) rfl)))))),?_⟩⟩;show Zv _ _ _ [some (.ref x),some (.int m),some (.int d),none,none,none,none] H;walk_at "ee";refine ⟨m,rfl,hm,fun pp H1 s1 npp hpp=>?_⟩;show tLc _ _ _ _ _ _ _ _;refine hid fun Z_ z_=>?_;obtain ⟨wb,wkg,whb⟩:=T.zME _ _ (zYt hm);obtain ⟨rb,rkg,rhb⟩:=T.zOe _ _ (zYu hm);refine z_ ?_;clear z_;refine zWX hm hpp fun D H2 s2 nD hD=>?_;refine zPx hm hD wkg whb (zWV hm) fun wl H3 s3 nwl hwl=>?_;have hx3:=s3 _ _ (s2 _ _ (s1 _ _ hx));refine ⟨_,_,_,hx3,T.Qx,T.Zt,by show 0 < 1000;omega,?_⟩;have offT:∀ {a:Addr}{xs:List V}{o:HO},SqT K H3 a xs->SqT K (upd H3 x o) a xs:=fun {a xs o} z=>QK z hx3 fun _=>zIx;have Dx:D≠x:=fun z=>by obtain ⟨vs,e,_⟩:=hD;rw [z,s2 _ _ (s1 _ _ hx)] at e;cases e
   have wlx:wl≠x:=fun z=>by rw [z,hx3] at hwl;cases hwl
   obtain ⟨tvs,tD,tv⟩:=hD.mono s3;refine zPx hm (H:=upd H3 x (.ins A.jB dx [("wholes",.ref wl)])) ⟨tvs,by rw [zF Dx];exact tD,Paired.zFH tv fun _ _ z=>z.off hx3 fun _=>zIx⟩ rkg rhb (zWW hm) fun rl H4 s4 nrl hrl=>?_;have hx4:=s4 _ _ (zB (H:=H3) (a:=x) (o:=.ins A.jB dx [("wholes",.ref wl)]));have rlx:rl≠x:=fun z=>by rw [z,zB] at nrl;cases nrl
   refine ⟨_,_,_,hx4,T.Qx,T.Qy,by show 1 < 1000;omega,?_⟩;refine ⟨_,T.zJS _ _ (zYv hm),_,_,_,zB,T.Qx,T.Zu,by show 2 < 1000;omega,?_⟩;rw [z5];refine k _ (fun b o hb e=>?_) ⟨dx,wl,rl,zB,?_,?_⟩
   . rw [zF hb];refine s4 _ _ ?_;rw [zF hb];exact s3 _ _ (s2 _ _ (s1 _ _ e))
   . rw [zF wlx];refine s4 _ _ ?_;rw [zF wlx];exact hwl
   . rw [zF rlx];exact hrl
end
theorem zWY {m:Nat}(hm:m∈Trail.ROUNDS)(d:Nat)(s:List Int):Bd s.length (zJd m d s).2:=by
 refine snoc_ind (P:=fun s=>Bd s.length (zJd m d s).2) (by show Bd 0 Pt.zero;unfold Bd Pt.zero;simp) (fun s c ih=>?_) s;rw [zMz];split
 . exact (zDt hm _).bd
 . exact ih.mono (by rw [List.length_append];omega)
section
theorem zNT {H:Hp}{R:Hp->Prop}{m d:Nat}{x dx:Addr}(hm:m∈Trail.ROUNDS)(nx:H x=none)(ndx:H dx=none)(nxd:dx≠x)(q:∀ H',zz H H'->zOR A H' x m d->R H') : zEP K A [.ref x,.int m,.int d] (upd (upd H dx (.own x)) x (.ins A.jB dx [])) (fun v H2=>v=.non/\R H2) E0:=by refine ⟨x,dx,m,d,rfl,zB,hm,fun H' k ho=>⟨rfl,q H' (fun b o e=>k b o (zI e nx) ?_) ho⟩⟩;rw [zF (zI e nx),zF (zI e ndx)];exact e
inductive zOS (K:Fg)(A:Ad)(vs:List V)(H:Hp)(Q:VK)(E:XK):Prop | m (a:Addr)(L:List Int)(m d:Nat)(_:vs=[.ref a,.int m,.int d])(_:H a=some (.lst (L.map V.int)))(_:m∈Trail.ROUNDS)(_:zEL L)(_:L.length<=100000)(_:∀ r q H',zz H H'->SqT K H' r [.int ((zJd m d L).1:Nat),.ref q]->SqT K H' q (zJd m d L).2.vs->Q (.ref r) H')
theorem zOT (T:Txt K mg A):qM P w K mg base CX0 6 A.zCR A.zE2 ["signs","turns","direction"] (zOS K A):=by
 refine T.zCY.okc Z0 fun vs H Q E h=>?_
 . obtain ⟨a,L,m,d,rfl,ha,hm,hL,hz,k⟩:=h;refine ⟨rfl,fun _ _ _ _ hr=>⟨_,(zC (sA 3 Z0.nd (zBi T.zOY (zAy T) (hr.mono (by decide)) rfl T.zOX (bd2 T.Z9) .nil zBj (zA (pv 1) zD))) (zC (sA 4 Z0.nd (zBi T.zJO (zI5 T) (hr.mono (by decide)) rfl T.zJN (bd3 T.JW) .nil zBj (zA (pv 1) (zA (pv 2) zD)))) (zC (sA 5 Z0.nd (zH6 (zA zM (zA (zU (pv 3) rfl) zD)))) (zC (JZ PassesOwn.never rfl (zT3 rfl T.j7 (zA (pv 0) zD) zM) (zJ8 rfl (Zk (z8 (i:=6) Z0.nd rfl (Or.inl rfl)) (Zk (z8 (i:=7) Z0.nd rfl (Or.inl rfl)) zGg))) (zC (z7 (mA (pv 3) T.qK T.j5 (QL T) hr (bd2 T.jV) (zA (pv 7) zD))) (zE (z6 (qQ (mA (pv 4) T.Qx T.ZJ (zEO T) hr (bd3 T.jJ) (zA (zU (pv 3) rfl) (zA (ixT (pv 5) zM) zD))) (fun _=>rfl)) (zE (sA 5 Z0.nd (zH6 (zA (pv 6) (zA (zU (pv 3) rfl) zD))))) zR)))) (zE (zN (pv 5))))))),?_⟩⟩;show Zv _ _ _ [some (.ref a),some (.int m),some (.int d),none,none,none,none,none] H;have big:=sizeLine_eq;walk_at "ee";refine fun p dp np ndp npd=>zGJ hm np ndp npd fun kp mv td H1 s1 nk nmv ntd hp=>?_;refine fun o dd no ndo nod=>zNT hm no ndo nod fun H2 s2 ⟨dox,wl,rl,ho,hwl,hrl⟩=>?_;refine hid fun Z_ z_=>?_;have hp2:=hp.mono s2;obtain ⟨dx,pl,vs0,g1,g2,g3,g4,g5,g6⟩:=hp2.at_;refine z_ ?_;clear z_;cases g6;have op:o≠p:=fun z=>by obtain ⟨_,_,_,gg,_⟩:=hp.at_;rw [z,gg] at no;cases no
   have ok' : o≠kp:=fun z=>by rw [z,g5] at ho;cases ho
   have wp:wl≠p:=fun z=>by rw [z,g1] at hwl;cases hwl
   have wk:wl≠kp:=fun z=>by rw [z,g5] at hwl;cases hwl
   have rp:rl≠p:=fun z=>by rw [z,g1] at hrl;cases hrl
   have rk:rl≠kp:=fun z=>by rw [z,g5] at hrl;cases hrl
   have hout:∀ {H' : Hp},(∀ b u,b≠p->b≠kp->H2 b=some u->H' b=some u)->zOR A H' o m d:=fun {H'} f=>⟨dox,wl,rl,f _ _ op ok' ho,f _ _ wp wk hwl,f _ _ rp rk hrl⟩;refine ⟨_,_,_,g1,T.qK,T.zt,_,rfl,by show 2<=sizeLine;omega,fun t0 nt0=>?_⟩;have s3:=zK (o:=.tup [.int 0,.ref pl]) nt0;obtain ⟨I,hI⟩ : ∃ I:Nat->List (Option V)->Hp->Prop,I=fun i Z H'=>∃ (v6 v7:Option V)(bt bq:Addr),Z=[some (.ref a),some (.int m),some (.int d),some (.ref p),some (.ref o),some (.ref bt),v6,v7]/\zz H H'/\Fr p kp H2 H'/\jo K A H' p kp mv td m (zT m (L.take i))/\SqT K H' bt [.int ((zJd m d (L.take i)).1:Nat),.ref bq]/\SqT K H' bq (zJd m d (L.take i)).2.vs:=⟨_,rfl⟩;refine ⟨_,rfl,a,_,rfl,rfl,SqL.of (s3 _ _ (s2 _ _ (s1 _ _ ha))),zR5 (xs:=L.map V.int) I ?_ ?_ ?_ ?_⟩
   . rw [hI];exact ⟨none,none,t0,pl,rfl,(s1.trans s2).trans s3,Fr.of s3,hp2.mono s3,SqT.of zB,ze g4 s3⟩
   . intro i Z H' hi h;rw [hI] at h;obtain ⟨v6,v7,bt,bq,rfl,sm,_⟩:=h;exact SqL.of (sm _ _ ha)
   . intro i x Z H' tt hx h nt;rw [hI] at h;obtain ⟨v6,v7,bt,bq,rfl,sm,fr0,hp',hbt,hbq⟩:=h;refine hid fun Z_ z_=>?_;obtain ⟨c,hc,rfl⟩:=int_at hx;have hi:i < L.length:=(List.getElem?_eq_some_iff.mp hc).1;have el:(L.take i).length=i:=by rw [List.length_take];omega
     have es:=zMz m d (L.take i) c;rw [<- zC8 hc,el] at es;have s4:=zK (o:=.tup [.int (1+(i:Nat)),V.int c]) nt;have hp4:=hp'.mono s4;obtain ⟨dx4,pl4,vs4,h1,_⟩:=hp4.at_;refine z_ ?_;clear z_;walk_at "ee";refine ⟨_,SqT.of zB,rfl,_,_,rfl,_,_,rfl,rfl,_,_,h1,rfl,zEM hp4 hm hL hz hc fun H5 f5 hp5=>?_⟩;refine hid fun Z_ z_=>?_;obtain ⟨dx5,pl5,vs5,q1,q2,q3,q4,q5,q6⟩:=hp5.at_;have fr5:=(fr0.trans (Fr.of s4)).trans f5;have ho5:=hout fr5;obtain ⟨_,_,_,oo,_⟩:=id ho5;refine z_ ?_;clear z_;have hbt5:=zNS hp4 f5 (ze hbt s4);have hbq5:=zNS hp4 f5 (ze hbq s4);have b1:Bd 1000000 (zT m (L.take (i+1))).pos:=(zDt hm _).bd.mono (by rw [List.length_take];omega);have b2:Bd 1000000 (zJd m d (L.take i)).2:=(zWY hm d _).mono (by rw [List.length_take];omega);refine ⟨_,_,oo,rfl,_,_,_,q1,T.qK,T.zt,_,rfl,_,hbt5,_,rfl,o,pl5,bq,_,_,m,d,rfl,ho5,hm,q4,hbq5,b1,b2,fun H6 s6=>?_⟩;refine ⟨zDc m d (zT m (L.take (i+1))).pos (zJd m d (L.take i)).2,rfl,?_⟩;by_cases c1:zDc m d (zT m (L.take (i+1))).pos (zJd m d (L.take i)).2=true
     . rw [if_pos c1];rw [if_pos c1] at es;refine ⟨_,_,_,s6 _ _ q1,T.qK,T.zt,_,rfl,by show 2<=sizeLine;omega,fun t nt6=>?_⟩;have s7:=s6.trans (zK (o:=.tup [.int (1+(i:Nat)),.ref pl5]) nt6);rw [hI];dsimp only;rw [es];refine ⟨_,_,_,pl5,rfl,(zG7 (sm.trans s4) np nk f5).trans s7,fr5.trans (Fr.of s7),hp5.mono s7,?_,ze q4 s7⟩;rw [show (((i+1:Nat):Nat):Int)=1+(i:Int) by omega];exact SqT.of zB
     . rw [if_neg c1];rw [if_neg c1] at es;rw [hI];dsimp only;rw [es];exact ⟨_,_,_,bq,rfl,(zG7 (sm.trans s4) np nk f5).trans s6,fr5.trans (Fr.of s6),hp5.mono s6,ze hbt5 s6,ze hbq5 s6⟩
   . intro Z H' h;rw [hI] at h;obtain ⟨v6,v7,bt,bq,rfl,sm,fr0,hp',hbt,hbq⟩:=h;rw [List.length_map,List.take_length] at hbt hbq;walk_at "ee";exact k bt bq H' sm hbt hbq
end
theorem zZd {k:Nat}{A:Around}(h:zDi k A):A.units+64 < cLine:=by have:=h.un;omega
abbrev dI (l:List Int):List PyData:=l.map PyData.int
theorem zWZ {K:Fg}{H:Hp}:∀ l:List Int,zNk K H (l.map V.int) (dI l)
 | []=>.nil
 | i :: l=>.cons (.int i) (zWZ l)
theorem zZI:∀ a b:List Int,PyData.eqvAll (dI a) (dI b)=decide (a=b)
 | [],[]=>by simp [PyData.eqvAll]
 | [],_ :: _=>by simp [PyData.eqvAll]
 | _ :: _,[]=>by simp [PyData.eqvAll]
 | x :: a,y :: b=>by show (PyData.eqv (.int x) (.int y) && PyData.eqvAll (dI a) (dI b))=_;rw [zZI a b];show ((x == y) && _)=_;by_cases h:x=y <;> by_cases h2:a=b <;> simp [h,h2]
theorem zTH (l:List Int)(hl:l.length<=sizeLine):SeqAt.shaped (.list (dI l))=true:=by
 have h1:∀ l:List Int,PyData.canLayAll0 (dI l)=true:=fun l=>by
   induction l with
   | nil=>simp [PyData.canLayAll0]
   | cons i l ih =>show PyData.canLayAll0 (.int i :: dI l)=true;rw [PyData.canLayAll0,ih,PyData.canLay0];rfl
 have h2:∀ l:List Int,PyData.depthAll (dI l)=0:=fun l=>by
   induction l with
   | nil=>simp [PyData.depthAll]
   | cons i l ih =>show PyData.depthAll (.int i :: dI l)=0;rw [PyData.depthAll,ih,PyData.depth];rfl
 unfold SeqAt.shaped;rw [PyData.canLay0,h1,PyData.depth,h2];rfl
section
inductive zL0 (K:Fg)(vs:List V)(H:Hp)(Q:VK)(E:XK):Prop | m (a:Addr)(u:List Int)(_:vs=[.ref a])(_:H a=some (.lst (u.map V.int)))(_:Q (.bl (!qw u)) H)
theorem zGL (T:Txt K mg A):qM P w K mg base CX0 1 A.Jg A.zBR ["w"] (zL0 K):=by
 refine T.j0.okc zLW fun vs H Q E h=>?_
 . obtain ⟨a,u,rfl,ha,k⟩:=h;refine ⟨rfl,fun _ _ _ _ hr=>⟨_,(zE (zN (zKv zDl zDl zM (zd zQ (by rfl) T.QB PySem.boot_len (zA (pv 0) zD)) (zb rfl T.JD)))),?_⟩⟩;show zHD _ _ [some (.ref a)] H;walk_at "ee";refine ⟨_,.inl (SqL.of ha),?_⟩;rw [List.length_map];unfold qw at k;by_cases c1:1<=u.length
   . rw [if_pos (by simp;omega)];have e1:u.isEmpty=false:=by cases u with | nil=>exact absurd c1 (by decide) | cons _ _=>rfl
     have e2:decide ((u.length:Int)<=64) = !decide (64 < u.length):=by by_cases h:64 < u.length <;> simp [h] <;> omega
     rw [e1,Bool.false_or] at k;rw [e2];exact k
   . rw [if_neg (by simp;omega)];have e1:u.isEmpty=true:=by cases u with | nil=>rfl | cons _ _=>exact absurd (Nat.succ_le_succ (Nat.zero_le _)) c1
     rw [e1,Bool.true_or] at k;exact k
inductive zNU (K:Fg)(vs:List V)(H:Hp)(Q:VK)(E:XK):Prop | m (b a:Addr)(u L:List Int)(f:Nat)(_:vs=[.ref b,.ref a,.int f])(_:H b=some (.lst (u.map V.int)))(_:H a=some (.lst (L.map V.int)))(_:L.length<=100000)(_:u.length<=100000)(_:f<=4294967295)(_:∀ r H',zz H H'->H r=none->H' r=some (.lst (((Zx u L f (L.length - f)).map Int.ofNat).map V.int))->Q (.ref r) H')
theorem zOU (u L:List Int)(f n:Nat):(Zx u L f n).length<=n:=by unfold Zx;have:=List.length_filter_le (fun p=>decide ((L.drop p).take u.length=u)) (List.range' f n);rw [List.length_range'] at this;exact this
theorem zHT (T:Txt K mg A):qM P w K mg base CX0 1 A.zA1 A.zDA ["w","signs","first"] (zNU K):=by
 refine T.Z3.okc zD7 fun vs H Q E h=>?_
 . obtain ⟨b,a,u,L,f,rfl,hb,ha,hz,hu,hf,k⟩:=h;refine ⟨rfl,fun _ _ _ _ hr=>⟨_,(zE (zN (zRc (g:=(zE9 3)) (tt:=(zNb (tOp (zYX K) (tSl (zXD K) (zFr 1) (zQC (zFr 3)) (zQC (tOp (rI0 fun i j=>.int (i+j)) (zFr 3) (tCB (zYq K) (zGj (zFr 0) zP8))))) (zFr 0)))) (te:=(zFr 3)) (own:=[(("place" : Str),3)]) rfl zD7.nd (zRH rfl T.zJT (zA (pv 2) (zA (zd zQ (by rfl) T.QB PySem.boot_len (zA (pv 1) zD)) zD))) ⟨rfl,by decide +kernel,(by show ∀ p∈[(("place" : Str),3)],(["w","signs","first","place"]:List Str)[p.2]? = some p.1;decide +kernel),(by show ∀ y∈(_:List (Str×NameKind)),y.2=.free->(zH zAm).names.lookup y.1=some .cell\/(zH zAm).names.lookup y.1=some .free;decide +kernel),(by show ∀ y∈(_:List (Str×NameKind)),y.2=.local\/y.2=.cell->y.1∈[(("place" : Str),3)].map (·.1)\/y.1∉(["w","signs","first","place"]:List Str);decide +kernel)⟩ (fun _ _ _ _ _=>(z8 (i:=3) zD7.nd rfl (Or.inl rfl))) (fun _ _ _ _ _=>(zRa (zS (zXI (zZd hr)) (zCb zH8 (pv 1) (zAi (pv 3)) (zAi (z9 ZK (pv 3) (zd zQ (by rfl) T.QB PySem.boot_len (zA (pv 0) zD))))) (pv 0) (zX _)))) (fun _ _ _ _ _=>(pv 3))))),?_⟩⟩;show zHD _ _ [some (.ref b),some (.ref a),some (.int f),none] H;have big:=sizeLine_eq;refine ⟨_,rfl,_,rfl,a,_,rfl,.inl (SqL.of ha),f,(L.length:Int),by rw [List.length_map],⟨by omega,by omega,by omega,by omega⟩,fun D nD=>?_⟩;refine zPu (L.length - f) (fun i H'=>zz H H'/\H' D=some (.lst (((Zx u L f i).map Int.ofNat).map V.int))) ⟨zK nD,by rw [zB];rfl⟩ (fun i H' hi _=>by show i < ((L.length:Int) - (f:Int)).toNat;omega) (fun H' _=>by show ((L.length:Int) - (f:Int)).toNat<=_;omega) (fun i H' x H2 hi ⟨sm,hD⟩ hy=>?_) (fun H' ⟨sm,hr⟩=>k D H' sm nD hr);obtain ⟨rfl,rfl⟩:=hy;refine ⟨rfl,?_⟩;have eS:=zM3 u L f i;show zNb _ [some (.ref b),some (.ref a),some (.int f),some (.int ((f:Int)+(i:Nat)))] H2 _;walk_at "ee";refine ⟨b,_,rfl,.inl (SqL.of (sm _ _ hb)),_,rfl,_,SqL.of (sm _ _ ha),fun p np=>?_⟩;have ec:zJU (L.map V.int) (some ((f:Int)+(i:Int))) (some ((f:Int)+(i:Int)+((u.map V.int).length:Int)))=((L.drop (f+i)).take u.length).map V.int:=by
     have:=zLo (xs:=L.map V.int) (i:=f+i) (n:=u.length);rw [List.length_map,show ((f:Int)+(i:Int))=((f+i:Nat):Int) by omega,this,<- List.map_drop,<- List.map_take]
   rw [ec];have s2:=zK (o:=.lst (((L.drop (f+i)).take u.length).map V.int)) np;refine ⟨.list (dI ((L.drop (f+i)).take u.length)),.lst (SqL.of zB) (zWZ _),.list (dI u),.lst (SqL.of (s2 _ _ (sm _ _ hb))) (zWZ _),zTH _ (by rw [List.length_take];omega),zTH _ (by omega),?_⟩;have ee:PyData.eqv (.list (dI ((L.drop (f+i)).take u.length))) (.list (dI u))=decide ((L.drop (f+i)).take u.length=u):=by rw [PyData.eqv,zZI]
   rw [ee];by_cases c:(L.drop (f+i)).take u.length=u
   . rw [if_pos (decide_eq_true c)];rw [if_pos c] at eS;refine ⟨_,rfl,_,s2 _ _ hD,by rw [List.length_map,List.length_map];have:=zOU u L f i;omega,jY (sm.trans s2) nD,?_⟩;rw [zB,eS];simp
   . rw [if_neg (by simpa using c)];rw [if_neg c,List.append_nil] at eS;rw [eS];exact ⟨sm.trans s2,s2 _ _ hD⟩
end
def zWa (r:Int)(a:Trail.Ans):Int×List Int:=if r < 0 then (r,[]) else (a.ret,a.nums)
structure zUc (g:Nat)(ok:Bool)(M:Nat)(m:Int)(row:List Int)(rl:RL):Prop where
 dat:Dat rl row
 mM:m=(M:Int)
 hM:M∈Trail.ROUNDS
 len:zC6 g ok (zg rl row g).length=0->∀ j,j<=g->(zg rl row j).length<=100000
 wk:zEL (zg rl row g)
section
def zGM (A:Ad)(H:Hp)(x:Addr)(l:List Addr)(Q:VK)(m:Int)(row:List Int)(rl:RL)(r:Int)(a:Trail.Ans):Prop:=zGG A H x l Q m row rl (zWa r a).1 (zWa r a).2 []
theorem zGM.neg {H H1:Hp}{x:Addr}{l l1:List Addr}{Q:VK}{m:Int}{row:List Int}{rl:RL}{r:Int}{a:Trail.Ans}{E:XK}(q:zGM A H x l Q m row rl r a)(c:r < 0)(sm:zz (hide H l) (hide H1 l1))(hw:WAt A H1 x m row rl l1):zAx A [.int r] H1 Q E:=by unfold zGM zWa at q;rw [if_pos c] at q;exact zGG.alone q sm hw
theorem zGM.says {H:Hp}{x:Addr}{l:List Addr}{Q:VK}{m:Int}{row:List Int}{rl:RL}{r:Int}{a:Trail.Ans}(q:zGM A H x l Q m row rl r a)(c:¬ r < 0):zGG A H x l Q m row rl a.ret a.nums []:=by unfold zGM zWa at q;rw [if_neg c] at q;exact q
inductive zI6 (A:Ad)(vs:List V)(H:Hp)(Q:VK)(E:XK):Prop | m (x:Addr)(m:Int)(g M:Nat)(row:List Int)(rl:RL)(l:List Addr)(_:vs=[.ref x,.int g])(_:WAt A H x m row rl l)(_:zUc g true M m row rl)(_:zGM A H x l Q m row rl (zC6 g true (zg rl row g).length) (zSn M (zg rl row g)))
theorem zI7 (T:Txt K mg A):qM P w K mg base CX0 7 A.ZU A.JQ ["world","g"] (zI6 A):=by
 refine T.Zg.okc zEC fun vs H Q E h=>?_
 . obtain ⟨x,m,g,M,row,rl,l,rfl,hw,D,q⟩:=h;refine ⟨rfl,fun _ _ _ s hr=>⟨_,(zC (sA 2 zEC.nd (cA (jK T) hr T.jM T.zl (bd3 T.zl) (zA (pv 0) (zA (pv 1) (zA zP0 zD))))) (zC (z6 (zS zFB (pv 2) zM (zX _)) (zE (zN (cA (zO T) hr T.zP T.zJ (bd1 T.zJ) (zA (pv 2) zD)))) zR) (zE (zN (cA (qa T) hr T.qD T.zV (bd2 T.zV) (zA zM (zA (zDm zDn (by rfl) T.zNX (by decide +kernel) (zA (cA (zLw T) hr T.zEe T.Jv (bd2 T.Jv) (zA (mA (pv 0) T.zW T.zm (zw T) hr (bd2 T.zf) (zA (pv 1) zD)) (zA (zU (pv 0) rfl) zD))) zD)) zD))))))),?_⟩⟩;show Zv _ _ _ [some (.ref x),some (.int g),none] H;have big:=sizeLine_eq;walk_at "ee";refine ⟨x,m,g,true,row,rl,l,rfl,hw,D.dat,fun H1 l1 sm hw1=>⟨_,rfl,?_⟩⟩;have hz:=D.len;generalize hn:zC6 g true (zg rl row g).length=n at q hz;by_cases c:n < 0
   . rw [if_pos (decide_eq_true c)];exact q.neg c sm hw1
   . rw [if_neg (by simpa using c)];refine hid fun Z_ z_=>?_;obtain ⟨e0,e1,e2,e3⟩:=zEI (by rw [hn];exact c);rw [hn] at e0;have q:=q.says c;obtain ⟨dx,fr,d,tv,h1,h2,h3,h4⟩:=hw1.at_;refine z_ ?_;clear z_;refine ⟨_,_,h1,rfl,x,m,g,row,rl,l1,rfl,hw1,e1,fun j hj=>by have:=hz e0 j hj;omega,fun t H2 s2 ht=>?_⟩;have hw2:=hw1.mono s2;refine ⟨_,_,_,s2 _ _ h1,T.zW,T.zx,_,rfl,t,_,M,by rw [D.mM],ht,D.hM,D.wk,hz e0 g (Nat.le_refl _),fun r H3 s3 hr3=>⟨r,rfl,_,.inr hr3,fun p np=>?_⟩⟩;exact q.fresh (sm.trans (zZ (s2.trans s3))) (hw2.mono s3) np
end
section
theorem zWb {xs:List V}{n:Nat}:zJU xs none (some (n:Int))=xs.take n:=by have:=zLo (xs:=xs) (i:=0) (n:=n);rw [List.drop_zero] at this;rw [<- this];unfold zJU;congr 2;simp
inductive zL1 (A:Ad)(vs:List V)(H:Hp)(Q:VK)(E:XK):Prop | m (x:Addr)(m:Int)(g M:Nat)(dr:Nat)(row:List Int)(rl:RL)(l:List Addr)(_:vs=[.ref x,.int g,.int dr])(_:WAt A H x m row rl l)(_:zUc g true M m row rl)(_:zGM A H x l Q m row rl (zC6 g true (zg rl row g).length) (zYo M dr (zg rl row g)))
theorem zL2 (T:Txt K mg A):qM P w K mg base CX0 7 A.Jl A.zBW ["world","g","direction"] (zL1 A):=by
 refine T.Jx.okc zCz fun vs H Q E h=>?_
 . obtain ⟨x,m,g,M,dr,row,rl,l,rfl,hw,D,q⟩:=h;refine ⟨rfl,fun _ _ _ s hr=>⟨_,(zC (sA 3 zCz.nd (cA (jK T) hr T.jM T.zl (bd3 T.zl) (zA (pv 0) (zA (pv 1) (zA zP0 zD))))) (zC (z6 (zS zFB (pv 3) zM (zX _)) (zE (zN (cA (zO T) hr T.zP T.zJ (bd1 T.zJ) (zA (pv 3) zD)))) zR) (zC (sA 4 zCz.nd (cA (zOT T) hr T.zHA T.zCY (bd3 T.zCY) (zA (mA (pv 0) T.zW T.zm (zw T) hr (bd2 T.zf) (zA (pv 1) zD)) (zA (zU (pv 0) rfl) (zA (pv 2) zD))))) (zE (zN (cA (qa T) hr T.qD T.zV (bd2 T.zV) (zA zM (zA (z9 zFw (qY (zA (ixT (pv 4) zM) zD)) (zDm zDn (by rfl) T.zNX (by decide +kernel) (zA (ixT (pv 4) zM) zD))) zD)))))))),?_⟩⟩;show Zv _ _ _ [some (.ref x),some (.int g),some (.int dr),none,none] H;have big:=sizeLine_eq;walk_at "ee";refine ⟨x,m,g,true,row,rl,l,rfl,hw,D.dat,fun H1 l1 sm hw1=>⟨_,rfl,?_⟩⟩;have hz:=D.len;generalize hn:zC6 g true (zg rl row g).length=n at q hz;by_cases c:n < 0
   . rw [if_pos (decide_eq_true c)];exact q.neg c sm hw1
   . rw [if_neg (by simpa using c)];refine hid fun Z_ z_=>?_;obtain ⟨e0,e1,e2,e3⟩:=zEI (by rw [hn];exact c);rw [hn] at e0;have q:=q.says c;obtain ⟨dx,fr,d,tv,h1,h2,h3,h4⟩:=hw1.at_;refine z_ ?_;clear z_;have hz1:∀ j,j<=g->(zg rl row j).length < sizeLine:=fun j hj=>by have:=hz e0 j hj;omega
     have hzg:=hz e0 g (Nat.le_refl _);refine ⟨_,_,h1,rfl,x,m,g,row,rl,l1,rfl,hw1,e1,hz1,fun t H2 s2 ht=>?_⟩;have hw2:=hw1.mono s2;refine ⟨_,_,_,s2 _ _ h1,T.zW,T.zx,_,rfl,t,_,M,dr,by rw [D.mM],ht,D.hM,D.wk,hzg,fun r qq H3 s3 hr3 hq3=>?_⟩;refine ⟨r,rfl,_,hr3,_,rfl,by show 1<=sizeLine;omega,fun p1 n1=>?_⟩;have s4:=zK (o:=.lst [.int ((zJd M dr (zg rl row g)).1:Nat)]) n1;refine ⟨r,rfl,_,ze hr3 s4,_,rfl,qq,rfl,_,.inr (ze hq3 s4),fun p2 n2=>?_⟩;have s5:=s4.trans (zK (o:=.lst (zJd M dr (zg rl row g)).2.vs) n2);refine ⟨_,zK n2 _ _ zB,_,zB,by show 1+4<=sizeLine;omega,fun p3 n3=>?_⟩;have s6:=s3.trans s5;exact q.fresh (sm.trans (zZ (s2.trans s6))) (hw2.mono s6) n3
inductive zI8 (A:Ad)(vs:List V)(H:Hp)(Q:VK)(E:XK):Prop | m (x:Addr)(m:Int)(g M:Nat)(k:Nat)(row:List Int)(rl:RL)(l:List Addr)(_:vs=[.ref x,.int g,.int k])(_:WAt A H x m row rl l)(_:zUc g (decide (k<=1000)) M m row rl)(_:zGM A H x l Q m row rl (zC6 g (decide (k<=1000)) (zg rl row g).length) (zM5 M (zg rl row g) k))
theorem zI9 (T:Txt K mg A):qM P w K mg base CX0 7 A.ZV A.JR ["world","g","most"] (zI8 A):=by
 refine T.Zh.okc zAu fun vs H Q E h=>?_
 . obtain ⟨x,m,g,M,k,row,rl,l,rfl,hw,D,q⟩:=h;refine ⟨rfl,fun _ _ _ s hr=>⟨_,(zC (sA 3 zAu.nd (cA (jK T) hr T.jM T.zl (bd3 T.zl) (zA (pv 0) (zA (pv 1) (zA (zBh zDl (pv 2) (zb rfl T.zBg) (zX _)) zD))))) (zC (z6 (zS zFB (pv 3) zM (zX _)) (zE (zN (cA (zO T) hr T.zP T.zJ (bd1 T.zJ) (zA (pv 3) zD)))) zR) (zC (sA 4 zAu.nd (cA (zHk T) hr T.zBD T.j6 (bd3 T.j6) (zA (mA (pv 0) T.zW T.zm (zw T) hr (bd2 T.zf) (zA (pv 1) zD)) (zA (zU (pv 0) rfl) (zA (pv 2) zD))))) (zC (z6 (zDa (qQ (pv 4) (fun _=>rfl))) (zE (zN (cA (zO T) hr T.zP T.zJ (bd1 T.zJ) (zA zM zD)))) zR) (zE (zN (cA (qa T) hr T.qD T.zV (bd2 T.zV) (zA zM (zA (pv 4) zD))))))))),?_⟩⟩;show Zv _ _ _ [some (.ref x),some (.int g),some (.int k),none,none] H;have big:=sizeLine_eq;walk_at "ee";have e9:decide ((k:Int)<=1000)=decide (k<=1000):=decide_eq_decide.mpr (by omega);rw [e9];refine ⟨x,m,g,(decide (k<=1000)),row,rl,l,rfl,hw,D.dat,fun H1 l1 sm hw1=>⟨_,rfl,?_⟩⟩;have hz:=D.len;generalize hn:zC6 g (decide (k<=1000)) (zg rl row g).length=n at q hz;by_cases c:n < 0
   . rw [if_pos (decide_eq_true c)];exact q.neg c sm hw1
   . rw [if_neg (by simpa using c)];refine hid fun Z_ z_=>?_;obtain ⟨e0,e1,e2,e3⟩:=zEI (by rw [hn];exact c);rw [hn] at e0;have q:=q.says c;obtain ⟨dx,fr,d,tv,h1,h2,h3,h4⟩:=hw1.at_;refine z_ ?_;clear z_;have hz1:∀ j,j<=g->(zg rl row j).length < sizeLine:=fun j hj=>by have:=hz e0 j hj;omega
     have hzg:=hz e0 g (Nat.le_refl _);refine ⟨_,_,h1,rfl,x,m,g,row,rl,l1,rfl,hw1,e1,hz1,fun t H2 s2 ht=>?_⟩;have hw2:=hw1.mono s2;refine ⟨_,_,_,s2 _ _ h1,T.zW,T.zx,_,rfl,t,_,M,k,by rw [D.mM],ht,D.hM,D.wk,hzg,fun r H3 s3 nr hr3=>?_⟩;have hw3:=hw2.mono s3;have hsm:=sm.trans (zZ (s2.trans s3));have hrl:hide H3 l1 r=some (.lst ((zWT M (zg rl row g) k).map V.int)):=zG.mpr ⟨fun z=>(by obtain ⟨o,e⟩:=hw2.taken r z;rw [nr] at e;cases e),hr3⟩;refine ⟨!((zWT M (zg rl row g) k).map V.int).isEmpty,.inl ⟨_,SqL.of hr3,rfl⟩,?_⟩;unfold zM5 at q;unfold zWT at hrl hr3 ⊢;cases em:zCj [] ((zY M (zg rl row g)).take k) with
     | none =>rw [em] at q hrl;rw [if_pos (by rfl)];exact q.alone hsm hw3
     | some pr =>rw [em] at q hrl;rw [if_neg (by simp)];exact q.listed hsm hw3 hrl
inductive zJA (A:Ad)(vs:List V)(H:Hp)(Q:VK)(E:XK):Prop | m (x:Addr)(m:Int)(g M:Nat)(k:Nat)(row:List Int)(rl:RL)(l:List Addr)(_:vs=[.ref x,.int g,.int k])(_:WAt A H x m row rl l)(_:zUc g true M m row rl)(_:zGM A H x l Q m row rl (zC6 g true (zg rl row g).length) (zKY M (zg rl row g) k))
theorem zJB (T:Txt K mg A):qM P w K mg base CX0 7 A.ZT A.JP ["world","g","k"] (zJA A):=by
 refine T.Zf.okc zAt fun vs H Q E h=>?_
 . obtain ⟨x,m,g,M,k,row,rl,l,rfl,hw,D,q⟩:=h;refine ⟨rfl,fun _ _ _ s hr=>⟨_,(zC (sA 3 zAt.nd (cA (jK T) hr T.jM T.zl (bd3 T.zl) (zA (pv 0) (zA (pv 1) (zA zP0 zD))))) (zC (z6 (zS zFB (pv 3) zM (zX _)) (zE (zN (cA (zO T) hr T.zP T.zJ (bd1 T.zJ) (zA (pv 3) zD)))) zR) (zC (sA 4 zAt.nd (cA (zJ1 T) hr T.zDQ T.Qm (bd1 T.Qm) (zA (mA (pv 0) T.zW T.zm (zw T) hr (bd2 T.zf) (zA (pv 1) zD)) zD))) (zC (z6 (zS zRO (pv 2) (zd zQ (by rfl) T.QB PySem.boot_len (zA (pv 4) zD)) (zX _)) (zE (zN (cA (zO T) hr T.zP T.zJ (bd1 T.zJ) (zA (zFA zAD zM) zD)))) zR) (zE (zN (cA (qa T) hr T.qD T.zV (bd2 T.zV) (zA zM (zA (qY (zA (ixL (pv 4) (pv 2)) zD)) zD))))))))),?_⟩⟩;show Zv _ _ _ [some (.ref x),some (.int g),some (.int k),none,none] H;have big:=sizeLine_eq;walk_at "ee";refine ⟨x,m,g,true,row,rl,l,rfl,hw,D.dat,fun H1 l1 sm hw1=>⟨_,rfl,?_⟩⟩;have hz:=D.len;generalize hn:zC6 g true (zg rl row g).length=n at q hz;by_cases c:n < 0
   . rw [if_pos (decide_eq_true c)];exact q.neg c sm hw1
   . rw [if_neg (by simpa using c)];refine hid fun Z_ z_=>?_;obtain ⟨e0,e1,e2,e3⟩:=zEI (by rw [hn];exact c);rw [hn] at e0;have q:=q.says c;obtain ⟨dx,fr,d,tv,h1,h2,h3,h4⟩:=hw1.at_;refine z_ ?_;clear z_;have hz1:∀ j,j<=g->(zg rl row j).length < sizeLine:=fun j hj=>by have:=hz e0 j hj;omega
     have hzg:=hz e0 g (Nat.le_refl _);refine ⟨_,_,h1,rfl,x,m,g,row,rl,l1,rfl,hw1,e1,hz1,fun t H2 s2 ht=>?_⟩;have hw2:=hw1.mono s2;refine ⟨t,_,M,rfl,ht,hzg,fun r H3 s3 nr hr3=>?_⟩;have hw3:=hw2.mono s3;have hsm:=sm.trans (zZ (s2.trans s3));refine ⟨r,rfl,_,.inl (SqL.of hr3),?_⟩;rw [List.length_map,List.length_map];unfold zKY at q;cases ek:(zY M (zg rl row g))[k]? with
     | none =>rw [ek] at q;have hk:(zY M (zg rl row g)).length<=k:=List.getElem?_eq_none_iff.mp ek;rw [if_pos (by simp;omega)];exact q.alone hsm hw3
     | some st =>rw [ek] at q;have hk:=(List.getElem?_eq_some_iff.mp ek).1;rw [if_neg (by simp;omega)];refine ⟨r,rfl,_,SqL.of hr3,.int (st.1:Nat),Zw (by rw [List.getElem?_map,List.getElem?_map,ek];rfl),by show 1<=sizeLine;omega,fun p np=>?_⟩;exact q.fresh hsm hw3 np
inductive zJC (A:Ad)(vs:List V)(H:Hp)(Q:VK)(E:XK):Prop | m (x:Addr)(m:Int)(g M:Nat)(i:Nat)(row:List Int)(rl:RL)(l:List Addr)(_:vs=[.ref x,.int g,.int i])(_:WAt A H x m row rl l)(_:zUc g true M m row rl)(_:zGM A H x l Q m row rl (zC6 g true (zg rl row g).length) (zKX M (zg rl row g) i))
theorem zJD (T:Txt K mg A):qM P w K mg base CX0 7 A.ZS A.JO ["world","g","i"] (zJC A):=by
 refine T.Ze.okc zEB fun vs H Q E h=>?_
 . obtain ⟨x,m,g,M,i,row,rl,l,rfl,hw,D,q⟩:=h;refine ⟨rfl,fun _ _ _ s hr=>⟨_,(zC (sA 3 zEB.nd (cA (jK T) hr T.jM T.zl (bd3 T.zl) (zA (pv 0) (zA (pv 1) (zA zP0 zD))))) (zC (z6 (zS zFB (pv 3) zM (zX _)) (zE (zN (cA (zO T) hr T.zP T.zJ (bd1 T.zJ) (zA (pv 3) zD)))) zR) (zC (z6 (zS zP6 (pv 2) (mA (pv 0) T.zW T.jO (QI T) hr (bd2 T.qc) (zA (pv 1) zD)) (zX _)) (zE (zN (cA (zO T) hr T.zP T.zJ (bd1 T.zJ) (zA (zFA zAD zM) zD)))) zR) (zE (zN (cA (qa T) hr T.qD T.zV (bd2 T.zV) (zA zM (zA (cA (zI2 T) hr T.zB4 T.Zd (bd2 T.Zd) (zA (zCb zH8 (mA (pv 0) T.zW T.zm (zw T) hr (bd2 T.zf) (zA (pv 1) zD)) zNe (zAi (pv 2))) (zA (zU (pv 0) rfl) zD))) zD)))))))),?_⟩⟩;show Zv _ _ _ [some (.ref x),some (.int g),some (.int i),none] H;have big:=sizeLine_eq;walk_at "ee";refine ⟨x,m,g,true,row,rl,l,rfl,hw,D.dat,fun H1 l1 sm hw1=>⟨_,rfl,?_⟩⟩;have hz:=D.len;generalize hn:zC6 g true (zg rl row g).length=n at q hz;by_cases c:n < 0
   . rw [if_pos (decide_eq_true c)];exact q.neg c sm hw1
   . rw [if_neg (by simpa using c)];refine hid fun Z_ z_=>?_;obtain ⟨e0,e1,e2,e3⟩:=zEI (by rw [hn];exact c);rw [hn] at e0;have q:=q.says c;obtain ⟨dx,fr,d,tv,h1,h2,h3,h4⟩:=hw1.at_;refine z_ ?_;clear z_;have hz1:∀ j,j<=g->(zg rl row j).length < sizeLine:=fun j hj=>by have:=hz e0 j hj;omega
     have hzg:=hz e0 g (Nat.le_refl _);refine ⟨_,_,h1,rfl,x,m,g,row,rl,l1,rfl,hw1,D.dat,e1,fun H2 l2 s2 hw2=>⟨_,rfl,?_⟩⟩;have hsm:=sm.trans s2;unfold zKX at q;by_cases c1:(zg rl row g).length < i
     . rw [if_pos c1] at q;rw [if_pos (by simp;omega)];exact q.alone hsm hw2
     . rw [if_neg c1] at q;rw [if_neg (by simp;omega)];refine hid fun Z_ z_=>?_;obtain ⟨dx2,fr2,d2,tv2,k1,k2,k3,k4⟩:=hw2.at_;refine z_ ?_;clear z_;refine ⟨_,_,k1,rfl,x,m,g,row,rl,l2,rfl,hw2,e1,hz1,fun t H3 s3 ht=>⟨t,rfl,_,SqL.of ht,fun p np=>?_⟩⟩;rw [zWb,<- List.map_take];have s4:=s3.trans (zK (o:=.lst (((zg rl row g).take i).map V.int)) np);refine ⟨_,_,_,s4 _ _ k1,T.zW,T.zx,_,rfl,p,_,M,by rw [D.mM],zB,D.hM,D.wk.take i,by rw [List.length_take];omega,fun r H5 s5 nr hr5=>?_⟩;have hw4:=hw2.mono s4;exact q.listed (hsm.trans (zZ (s4.trans s5))) (hw4.mono s5) (zG.mpr ⟨fun z=>(by obtain ⟨o,e⟩:=hw4.taken r z;rw [nr] at e;cases e),hr5⟩)
end
section
inductive zJ2 (A:Ad)(vs:List V)(H:Hp)(Q:VK)(E:XK):Prop | m (x:Addr)(m:Int)(g M:Nat)(b:Addr)(u:List Int)(f:Nat)(row:List Int)(rl:RL)(l:List Addr)(_:vs=[.ref x,.int g,.ref b,.int f])(_:WAt A H x m row rl l)(_:hide H l b=some (.lst (u.map V.int)))(_:u.length<=100000)(_:f<=4294967295)(_:zUc g (!qw u) M m row rl)(_:zGM A H x l Q m row rl (zC6 g (!qw u) (zg rl row g).length) (zQf (zg rl row g) u f))
theorem zJ3 (T:Txt K mg A):qM P w K mg base CX0 7 A.QQ A.zAI ["world","g","w","first"] (zJ2 A):=by
 refine T.Qk.okc zBy fun vs H Q E h=>?_
 . obtain ⟨x,m,g,M,b,u,f,row,rl,l,rfl,hw,hb,hu,hf,D,q⟩:=h;refine ⟨rfl,fun _ _ _ s hr=>⟨_,(zC (sA 4 zBy.nd (cA (jK T) hr T.jM T.zl (bd3 T.zl) (zA (pv 0) (zA (pv 1) (zA (cA (zGL T) hr T.zBc T.j0 (bd1 T.j0) (zA (pv 2) zD)) zD))))) (zC (z6 (zS zFB (pv 4) zM (zX _)) (zE (zN (cA (zO T) hr T.zP T.zJ (bd1 T.zJ) (zA (pv 4) zD)))) zR) (zC (sA 5 zBy.nd (cA (zHT T) hr T.zDJ T.Z3 (bd3 T.Z3) (zA (pv 2) (zA (mA (pv 0) T.zW T.zm (zw T) hr (bd2 T.zf) (zA (pv 1) zD)) (zA (pv 3) zD))))) (zC (z6 (zDa (qQ (pv 5) (fun _=>rfl))) (zE (zN (cA (zO T) hr T.zP T.zJ (bd1 T.zJ) (zA zM zD)))) zR) (zE (zN (cA (qa T) hr T.qD T.zV (bd2 T.zV) (zA zM (zA (qY (zA (ixL (pv 5) zM) zD)) zD))))))))),?_⟩⟩;show Zv _ _ _ [some (.ref x),some (.int g),some (.ref b),some (.int f),none,none] H;have big:=sizeLine_eq;walk_at "ee";refine ⟨b,u,rfl,(zG.mp hb).2,x,m,g,(!qw u),row,rl,l,rfl,hw,D.dat,fun H1 l1 sm hw1=>⟨_,rfl,?_⟩⟩;have hz:=D.len;generalize hn:zC6 g (!qw u) (zg rl row g).length=n at q hz;by_cases c:n < 0
   . rw [if_pos (decide_eq_true c)];exact q.neg c sm hw1
   . rw [if_neg (by simpa using c)];refine hid fun Z_ z_=>?_;obtain ⟨e0,e1,e2,e3⟩:=zEI (by rw [hn];exact c);rw [hn] at e0;have q:=q.says c;obtain ⟨dx,fr,d,tv,h1,h2,h3,h4⟩:=hw1.at_;refine z_ ?_;clear z_;have hz1:∀ j,j<=g->(zg rl row j).length < sizeLine:=fun j hj=>by have:=hz e0 j hj;omega
     have hzg:=hz e0 g (Nat.le_refl _);refine ⟨_,_,h1,rfl,x,m,g,row,rl,l1,rfl,hw1,e1,hz1,fun t H2 s2 ht=>?_⟩;have hw2:=hw1.mono s2;have hb2:=s2 _ _ (zG.mp (sm _ _ hb)).2;refine ⟨b,t,u,_,f,rfl,hb2,ht,hzg,hu,hf,fun r H3 s3 nr hr3=>?_⟩;have hw3:=hw2.mono s3;have hsm:=sm.trans (zZ (s2.trans s3));refine ⟨!(((Zx u (zg rl row g) f ((zg rl row g).length - f)).map Int.ofNat).map V.int).isEmpty,.inl ⟨_,SqL.of hr3,rfl⟩,?_⟩;unfold zQf at q;cases ep:Zx u (zg rl row g) f ((zg rl row g).length - f) with
     | nil =>rw [ep] at q;rw [if_pos (by rfl)];exact q.alone hsm hw3
     | cons k r' =>rw [ep] at q hr3;rw [if_neg (by simp)];refine ⟨r,rfl,_,SqL.of hr3,.int (k:Nat),Zw (j:=0) rfl,by show 1<=sizeLine;omega,fun p np=>?_⟩;exact q.fresh hsm hw3 np
inductive zJE (A:Ad)(vs:List V)(H:Hp)(Q:VK)(E:XK):Prop | m (x:Addr)(m:Int)(g M:Nat)(b:Addr)(u:List Int)(row:List Int)(rl:RL)(l:List Addr)(_:vs=[.ref x,.int g,.ref b])(_:WAt A H x m row rl l)(_:hide H l b=some (.lst (u.map V.int)))(_:u.length<=100000)(_:zUc g (!qw u) M m row rl)(_:zGM A H x l Q m row rl (zC6 g (!qw u) (zg rl row g).length) (Trail.tells 0 [((Zx u (zg rl row g) 0 (zg rl row g).length).length:Int)]))
theorem zJF (T:Txt K mg A):qM P w K mg base CX0 7 A.ZP A.JL ["world","g","w"] (zJE A):=by
 refine T.Zc.okc zEA fun vs H Q E h=>?_
 . obtain ⟨x,m,g,M,b,u,row,rl,l,rfl,hw,hb,hu,D,q⟩:=h;refine ⟨rfl,fun _ _ _ s hr=>⟨_,(zC (sA 3 zEA.nd (cA (jK T) hr T.jM T.zl (bd3 T.zl) (zA (pv 0) (zA (pv 1) (zA (cA (zGL T) hr T.zBc T.j0 (bd1 T.j0) (zA (pv 2) zD)) zD))))) (zC (z6 (zS zFB (pv 3) zM (zX _)) (zE (zN (cA (zO T) hr T.zP T.zJ (bd1 T.zJ) (zA (pv 3) zD)))) zR) (zE (zN (cA (qa T) hr T.qD T.zV (bd2 T.zV) (zA zM (zA (qY (zA (zd zQ (by rfl) T.QB PySem.boot_len (zA (cA (zHT T) hr T.zDJ T.Z3 (bd3 T.Z3) (zA (pv 2) (zA (mA (pv 0) T.zW T.zm (zw T) hr (bd2 T.zf) (zA (pv 1) zD)) (zA zM zD)))) zD)) zD)) zD))))))),?_⟩⟩;show Zv _ _ _ [some (.ref x),some (.int g),some (.ref b),none] H;have big:=sizeLine_eq;walk_at "ee";refine ⟨b,u,rfl,(zG.mp hb).2,x,m,g,(!qw u),row,rl,l,rfl,hw,D.dat,fun H1 l1 sm hw1=>⟨_,rfl,?_⟩⟩;have hz:=D.len;generalize hn:zC6 g (!qw u) (zg rl row g).length=n at q hz;by_cases c:n < 0
   . rw [if_pos (decide_eq_true c)];exact q.neg c sm hw1
   . rw [if_neg (by simpa using c)];refine hid fun Z_ z_=>?_;obtain ⟨e0,e1,e2,e3⟩:=zEI (by rw [hn];exact c);rw [hn] at e0;have q:=q.says c;obtain ⟨dx,fr,d,tv,h1,h2,h3,h4⟩:=hw1.at_;refine z_ ?_;clear z_;have hz1:∀ j,j<=g->(zg rl row j).length < sizeLine:=fun j hj=>by have:=hz e0 j hj;omega
     have hzg:=hz e0 g (Nat.le_refl _);refine ⟨_,_,h1,rfl,x,m,g,row,rl,l1,rfl,hw1,e1,hz1,fun t H2 s2 ht=>?_⟩;have hw2:=hw1.mono s2;have hb2:=s2 _ _ (zG.mp (sm _ _ hb)).2;refine ⟨b,t,u,_,0,rfl,hb2,ht,hzg,hu,by decide,fun r H3 s3 nr hr3=>?_⟩;have hw3:=hw2.mono s3;have hsm:=sm.trans (zZ (s2.trans s3));refine ⟨r,rfl,_,.inl (SqL.of hr3),by show 1<=sizeLine;omega,fun p np=>?_⟩;rw [List.length_map,List.length_map,Nat.sub_zero];exact q.fresh hsm hw3 np
inductive zJ4 (A:Ad)(vs:List V)(H:Hp)(Q:VK)(E:XK):Prop | m (x:Addr)(m:Int)(g M:Nat)(f k:Nat)(row:List Int)(rl:RL)(l:List Addr)(_:vs=[.ref x,.int g,.int f,.int k])(_:WAt A H x m row rl l)(_:zUc g (decide (k<=1000)) M m row rl)(_:zGM A H x l Q m row rl (zC6 g (decide (k<=1000)) (zg rl row g).length) (zV9 M (zg rl row g) f k))
theorem zJ5 (T:Txt K mg A):qM P w K mg base CX0 7 A.QV A.zAM ["world","g","first","most"] (zJ4 A):=by
 refine T.Qn.okc ZL fun vs H Q E h=>?_
 . obtain ⟨x,m,g,M,f,k,row,rl,l,rfl,hw,D,q⟩:=h;refine ⟨rfl,fun _ _ _ s hr=>⟨_,(zC (sA 4 ZL.nd (cA (jK T) hr T.jM T.zl (bd3 T.zl) (zA (pv 0) (zA (pv 1) (zA (zBh zDl (pv 3) (zb rfl T.zBg) (zX _)) zD))))) (zC (z6 (zS zFB (pv 4) zM (zX _)) (zE (zN (cA (zO T) hr T.zP T.zJ (bd1 T.zJ) (zA (pv 4) zD)))) zR) (zC (sA 5 ZL.nd (cA (zLt T) hr T.zEf T.Jw (bd4 T.Jw) (zA (mA (pv 0) T.zW T.zm (zw T) hr (bd2 T.zf) (zA (pv 1) zD)) (zA (zU (pv 0) rfl) (zA (pv 2) (zA (pv 3) zD)))))) (zC (sA 6 ZL.nd (qY zD)) (zC (JZ PassesOwn.never rfl (zDk (pv 5)) (z8 (i:=7) ZL.nd rfl (Or.inl rfl)) (zE (z7 (zFv PySem.F.plainAttrs_list PySem.F.slot_list_extend PySem.F.type_list_extend zDo (pv 6) (zA (pv 7) zD))))) (zE (zN (cA (qa T) hr T.qD T.zV (bd2 T.zV) (zA (zd zQ (by rfl) T.QB PySem.boot_len (zA (pv 5) zD)) (zA (pv 6) zD)))))))))),?_⟩⟩;show Zv _ _ _ [some (.ref x),some (.int g),some (.int f),some (.int k),none,none,none,none] H;have big:=sizeLine_eq;walk_at "ee";have e9:decide ((k:Int)<=1000)=decide (k<=1000):=decide_eq_decide.mpr (by omega);rw [e9];refine ⟨x,m,g,(decide (k<=1000)),row,rl,l,rfl,hw,D.dat,fun H1 l1 sm hw1=>⟨_,rfl,?_⟩⟩;have hz:=D.len;generalize hn:zC6 g (decide (k<=1000)) (zg rl row g).length=n at q hz;by_cases c:n < 0
   . rw [if_pos (decide_eq_true c)];exact q.neg c sm hw1
   . rw [if_neg (by simpa using c)];refine hid fun Z_ z_=>?_;obtain ⟨e0,e1,e2,e3⟩:=zEI (by rw [hn];exact c);rw [hn] at e0;have q:=q.says c;obtain ⟨dx,fr,d,tv,h1,h2,h3,h4⟩:=hw1.at_;refine z_ ?_;clear z_;have hz1:∀ j,j<=g->(zg rl row j).length < sizeLine:=fun j hj=>by have:=hz e0 j hj;omega
     have hzg:=hz e0 g (Nat.le_refl _);refine ⟨_,_,h1,rfl,x,m,g,row,rl,l1,rfl,hw1,e1,hz1,fun t H2 s2 ht=>?_⟩;have hw2:=hw1.mono s2;refine ⟨_,_,_,s2 _ _ h1,T.zW,T.zx,_,rfl,t,_,M,f,k,by rw [D.mM],ht,D.hM,D.wk,hzg,fun r H3 ws s3 nr hr3 hrows=>⟨Nat.zero_le _,fun p np=>?_⟩⟩;have s4:=s3.trans (zK (o:=.lst []) np);have hk:k<=1000:=by simpa using e2
     have hwl:ws.length=(zDg M (zg rl row g) f k).length:=(by rw [Paired.length hrows,List.length_map]);have hwk:(zDg M (zg rl row g) f k).length<=1000:=by unfold zDg;rw [List.length_take];omega
     have rp:r≠p:=fun z=>by rw [z,np] at hr3;cases hr3
     have nph:p∉l1:=fun z=>by obtain ⟨o,e⟩:=(hw2.mono s3).taken p z;rw [np] at e;cases e
     have np2:H2 p=none:=s3.free np;have h9:∀ l:List Stp,(l.flatMap zTQ).length=9 * l.length:=fun l=>by
       induction l with
       | nil=>rfl
       | cons y l ih=>rw [List.flatMap_cons,List.length_append,ih,List.length_cons];show 9+_=_;omega
     have big8:∀ i,(((zDg M (zg rl row g) f k).take i).flatMap zTQ).length<=9000:=fun i=>by rw [h9,List.length_take];omega
     refine ⟨_,rfl,r,rfl,⟨_,SqL.of (zK np _ _ hr3)⟩,zEm (xs:=ws) (fun i Z H'=>∃ (v7:Option V),Z=[some (.ref x),some (.int g),some (.int f),some (.int k),some (.int n),some (.ref r),some (.ref p),v7]/\zz H2 H'/\(∀ b o,b≠p->H3 b=some o->H' b=some o)/\H' p=some (.lst ((((zDg M (zg rl row g) f k).take i).flatMap zTQ).map V.int))) ?_ ?_ ?_ ?_⟩
     . exact ⟨none,rfl,s4,fun b o hb e=>zK np _ _ e,by rw [zB];rfl⟩
     . rintro i Z H' hi ⟨v7,rfl,_,kk,_⟩;exact SqL.of (kk _ _ rp hr3)
     . rintro i y Z H' hy ⟨v7,rfl,sm',kk,hp'⟩;refine hid fun Z_ z_=>?_;have hi:i < ws.length:=(List.getElem?_eq_some_iff.mp hy).1;have ei:(zDg M (zg rl row g) f k)[i]? = some ((zDg M (zg rl row g) f k)[i]'(by omega)):=List.getElem?_eq_getElem _;obtain ⟨v,f1,q',rfl,nq,f2⟩:=qx hrows (by rw [List.getElem?_map,ei];rfl);rw [hy] at f1;obtain rfl:=Option.some.inj f1;refine z_ ?_;clear z_;have qp:q'≠p:=fun z=>by rw [z,np] at f2;cases f2
       walk_at "ee";refine ⟨.inl ⟨rfl,_,SqL.of hp'⟩,_,hp',_,kk _ _ qp f2,?_,?_⟩
       . rw [List.length_map,List.length_map];have h1:=big8 i;have h2:(zTQ ((zDg M (zg rl row g) f k)[i]'(by omega))).length=9:=rfl;omega
       . refine ⟨jY sm' np2,fun b o hb e=>by rw [zF hb];exact kk b o hb e,?_⟩;have et:(zDg M (zg rl row g) f k).take (i+1)=(zDg M (zg rl row g) f k).take i ++ [(zDg M (zg rl row g) f k)[i]'(by omega)]:=by rw [List.take_succ,ei];rfl
         rw [zB,et,List.flatMap_append,List.map_append];simp
     . rintro Z H' ⟨v7,rfl,sm',kk,hp'⟩;rw [hwl,List.take_length] at hp';walk_at "ee";refine ⟨_,.inl (SqL.of (kk _ _ rp hr3)),?_⟩;rw [hwl];exact q.listed (sm.trans (zZ (s2.trans sm'))) (hw2.mono sm') (zG.mpr ⟨nph,hp'⟩)
end
section
theorem j8.dat {s:Trail.World}{m:Int}{row:List Int}{rl:RL}(R:j8 s m row rl):Dat rl row:=⟨R.zYL,R.rowOk.2,R.rlL,fun y hy=>(R.rlOk y hy).2.2,by have:=R.few;omega,R.nd⟩
theorem zG9 (g:Nat)(ok:Bool)(len:Nat):zC6 g ok len=zCh g (!ok) len:=by
 unfold zC6 zCh;by_cases c1:64 < g
 . rw [if_pos (by omega),if_pos c1]
 . rw [if_neg (by omega),if_neg c1];cases ok with
   | false=>rfl
   | true=>rfl
theorem zPy {n:Int}{li:List Int}(h:¬ n < 0->n=0)(l2:List Int)(hl:li=if n < 0 then [] else l2):(if n < 0 then [n] else NLines.flat 0 l2 [])=zDh n li []:=by
 subst hl;split
 . simp [zDh]
 . rename_i c;rw [h c];rfl
theorem zNV {g:Nat}{ok:Bool}{n:Nat}{a:Trail.Ans}(ha:a.text=[]):zJe g (!ok) n a=zDh (zWa (zC6 g ok n) a).1 (zWa (zC6 g ok n) a).2 []:=by
 rw [zG9];unfold zJe zWa;split
 . simp [zDh]
 . unfold zPU;rw [ha];cases hl:a.nums with
   | nil=>simp [zDh,NLines.flat]
   | cons y l=>simp [zDh,NLines.flat]
theorem zEQ {s:Trail.World}{m:Int}{row:List Int}{rl:RL}(R:j8 s m row rl){g:Nat}{ok bad:Bool}(hb:bad = !ok)(hw:TrailNeutral.ofGen s (g:Int) bad<=100000):zUc g ok s.m m row rl:=by refine ⟨R.dat,R.mm,R.rounds,fun h0 j hj=>?_,(zM2 R g).walk⟩;rw [zG9] at h0;obtain ⟨_,b1,b2,b3⟩:=zLT (by rw [h0];decide);have:=zPP hw (by rw [Int.toNat_natCast];exact b1) (by rw [hb];exact b2) (by rw [Int.toNat_natCast,fits_of R];exact decide_eq_true b3) j (by rw [Int.toNat_natCast];exact hj);rw [R.len] at this;exact this
theorem zZJ (u:List Int):TrailNeutral.noWord u=qw u:=by unfold TrailNeutral.noWord qw Trail.WORD;rfl
theorem not_le {n:Nat}:decide (1000 < n) = !decide (n<=1000):=by
 by_cases z:n<=1000
 . have:¬ 1000 < n:=(by omega);simp [z,this]
 . have:1000 < n:=(by omega);simp [z,this]
inductive zTI (K:Fg)(A:Ad)(vs:List V)(H:Hp)(Q:VK)(E:XK):Prop | m (x cu a:Addr)(ns:List Int)(i:Nat)(l:List Addr)(m:Int)(row:List Int)(rl:RL)(s:Trail.World)(p:Int)(c:List (List Int))(t:List Int)(_:vs=[.ref x,.int p,.ref cu])(_:zKk K A H x cu a ns i l m row rl s)(_:6<=p)(_:p<=10)(_:PyFlat.call PyWqazat.shape (p :: ns.drop i)=some (c,t))(_:TrailNeutral.asked1 c=true)(_:TrailNeutral.weight s c<=100000)(_:∀ r H',Did K A H x cu a ns l s c t r H'->Q (.ref r) H')
theorem zJ6 (T:Txt K mg A):qM P w K mg base CX0 8 A.Qh A.zAU ["world","call","cursor"] (zTI K A):=by
 refine T.Qw.okc JH fun vs H Q E h=>?_
 . obtain ⟨x,cu,a,ns,i,l,m,row,rl,s,p,c,t,rfl,B,p1,p2,hc,hask,hwt,q⟩:=h;refine ⟨rfl,fun _ _ _ _ hr=>⟨_,(zC (sA 3 JH.nd (mA0 (pv 2) T.zj T.zq (zu T) hr (bd1 T.zh))) (zC (z6 (zS QC (pv 1) (zb rfl T.zHx) (zX _)) (zE (zN (cA (zHh T) hr T.zBA T.jz (bd2 T.jz) (zA (pv 0) (zA (pv 3) zD))))) zR) (zC (z6 (zS QC (pv 1) (zb rfl T.zOg) (zX _)) (zE (zN (cA (zIq T) hr T.zB1 T.Za (bd3 T.Za) (zA (pv 0) (zA (pv 3) (zA (mA0 (pv 2) T.zj T.zq (zu T) hr (bd1 T.zh)) zD)))))) zR) (zC (z6 (zS QC (pv 1) (zb rfl T.zOh) (zX _)) (zC (sA 4 JH.nd (mA0 (pv 2) T.zj T.zq (zu T) hr (bd1 T.zh))) (zE (zN (cA (zIs T) hr T.zB2 T.Zb (bd4 T.Zb) (zA (pv 0) (zA (pv 3) (zA (pv 4) (zA (mA0 (pv 2) T.zj T.zq (zu T) hr (bd1 T.zh)) zD)))))))) zR) (zC (z6 (zS QC (pv 1) (zb rfl T.zTM) (zX _)) (zC (sA 4 JH.nd (mA0 (pv 2) T.zj T.zq (zu T) hr (bd1 T.zh))) (zE (zN (cA (zJ3 T) hr T.zDN T.Qk (bd4 T.Qk) (zA (pv 0) (zA (pv 3) (zA (mA0 (pv 2) T.zj T.qA (qh T) hr (bd1 T.z0)) (zA (pv 4) zD)))))))) zR) (zE (zN (cA (zJF T) hr T.zB3 T.Zc (bd3 T.Zc) (zA (pv 0) (zA (pv 3) (zA (mA0 (pv 2) T.zj T.qA (qh T) hr (bd1 T.z0)) zD))))))))))),?_⟩⟩;show Zv _ _ _ [some (.ref x),some (.int p),some (.ref cu),none,none] H;obtain ⟨dx,hcu,ncu,hsq,hstep⟩:=B.cur.step;have big:=sizeLine_eq;walk_at "dd";have hp:p=6\/p=7\/p=8\/p=9\/p=10:=(by omega);rcases hp with rfl | rfl | rfl | rfl | rfl
   . refine hid fun Z_ z_=>?_;obtain ⟨a1,a2,a3⟩:=call_num (n:=1) rfl hc;obtain ⟨v,hv,hd⟩:=drop_one a1;rw [hd] at a2 a3;simp only [List.take_succ_cons,List.take_zero,List.drop_succ_cons,List.drop_zero] at a2 a3;subst a2;have v0:=w32 (show TrailNeutral.whole32 v=true from hask);obtain ⟨g,rfl⟩ : ∃ g:Nat,v=(g:Int):=⟨v.toNat,by omega⟩;refine z_ ?_;clear z_;have st:=zSX B.rel (g:=(g:Int));simp only [Int.toNat_natCast] at st;refine ⟨_,_,hcu,rfl,cu,dx,a,i,ns,g,rfl,hcu,hsq,hv,rfl,?_⟩;rw [if_pos (by decide)];refine ⟨x,m,g,row,rl,l,rfl,B.wat.off hcu ncu,B.rel.dat,?_⟩;rw [zG9];exact qC hstep q a3.symm (by rw [st];exact B.rel) (by rw [st];exact zPy (fun c=>(zLT c).1) _ rfl)
   . refine hid fun Z_ z_=>?_;obtain ⟨a1,a2,a3⟩:=call_num (n:=2) rfl hc;obtain ⟨v,hv,hd⟩:=drop_one (ns:=ns) (i:=i) (by omega);obtain ⟨v2,hv2,hd2⟩:=drop_one (ns:=ns) (i:=i+1) (by rw [List.length_drop] at a1 ⊢;omega);rw [hd,hd2] at a2 a3;simp only [List.take_succ_cons,List.take_zero,List.drop_succ_cons,List.drop_zero] at a2 a3;subst a2;have hb:(TrailNeutral.whole32 v && TrailNeutral.whole32 v2)=true:=hask;rw [Bool.and_eq_true] at hb;have v0:=w32 hb.1;have v1:=w32 hb.2;obtain ⟨g,rfl⟩ : ∃ g:Nat,v=(g:Int):=⟨v.toNat,by omega⟩;refine z_ ?_;clear z_;have st:=zUB B.rel (g:=(g:Int)) v1.1;simp only [Int.toNat_natCast] at st;refine ⟨_,_,hcu,rfl,cu,dx,a,i,ns,g,rfl,hcu,hsq,hv,rfl,?_⟩;rw [if_neg (by decide)];refine ⟨rfl,?_⟩;rw [if_pos (by decide)];refine ⟨_,_,zB,rfl,cu,dx,a,i+1,ns,v2,rfl,zB,zAw hsq hcu,hv2,?_⟩;rw [z5];refine ⟨x,m,v2,g,row,rl,l,rfl,B.wat.off hcu ncu,B.rel.dat,?_⟩;rw [zG9];exact qC hstep q a3.symm (by rw [st];exact B.rel) (by rw [st];exact zPy (fun c=>(zLT c).1) _ rfl)
   . refine hid fun Z_ z_=>?_;obtain ⟨a1,a2,a3⟩:=call_num (n:=3) rfl hc;obtain ⟨v,hv,hd⟩:=drop_one (ns:=ns) (i:=i) (by omega);obtain ⟨v2,hv2,hd2⟩:=drop_one (ns:=ns) (i:=i+1) (by rw [List.length_drop] at a1 ⊢;omega);obtain ⟨v3,hv3,hd3⟩:=drop_one (ns:=ns) (i:=i+1+1) (by rw [List.length_drop] at a1 ⊢;omega);rw [hd,hd2,hd3] at a2 a3;simp only [List.take_succ_cons,List.take_zero,List.drop_succ_cons,List.drop_zero] at a2 a3;subst a2;have hb:(TrailNeutral.whole32 v && TrailNeutral.whole32 v2 && TrailNeutral.whole32 v3)=true:=hask;rw [Bool.and_eq_true,Bool.and_eq_true] at hb;have v0:=w32 hb.1.1;have v1:=w32 hb.1.2;have v4:=w32 hb.2;obtain ⟨g,rfl⟩ : ∃ g:Nat,v=(g:Int):=⟨v.toNat,by omega⟩;obtain ⟨f,rfl⟩ : ∃ f:Nat,v2=(f:Int):=⟨v2.toNat,by omega⟩;obtain ⟨n,rfl⟩ : ∃ n:Nat,v3=(n:Int):=⟨v3.toNat,by omega⟩;refine z_ ?_;clear z_;have st:=zUC B.rel (g:=(g:Int)) (i:=(f:Int)) (n:=(n:Int));simp only [Int.toNat_natCast] at st;have hdec:decide (10000 < n) = !decide (n<=10000):=by
       by_cases z:n<=10000
       . have:¬ 10000 < n:=(by omega);simp [z,this]
       . have:10000 < n:=(by omega);simp [z,this]
     rw [hdec] at st;refine ⟨_,_,hcu,rfl,cu,dx,a,i,ns,g,rfl,hcu,hsq,hv,rfl,?_⟩;rw [if_neg (by decide)];refine ⟨rfl,?_⟩;rw [if_neg (by decide)];refine ⟨rfl,?_⟩;rw [if_pos (by decide)];refine ⟨_,_,zB,rfl,cu,dx,a,i+1,ns,f,rfl,zB,zAw hsq hcu,hv2,?_⟩;rw [z5];refine ⟨_,_,zB,rfl,cu,dx,a,i+1+1,ns,n,rfl,zB,zAw hsq hcu,hv3,?_⟩;rw [z5];refine ⟨x,m,g,f,n,row,rl,l,rfl,B.wat.off hcu ncu,B.rel.dat,fun h0 j hj=>?_,?_⟩
     . refine hid fun Z_ z_=>?_;rw [zG9] at h0;obtain ⟨_,b1,b2,b3⟩:=zLT (by rw [h0];decide);refine z_ ?_;clear z_;have hw1:TrailNeutral.ofGen s (g:Int) (decide (Trail.SLICE < TrailNeutral.nat (n:Int)))<=100000:=hwt;have:=zPP hw1 (by rw [Int.toNat_natCast];exact b1) (by
         unfold Trail.SLICE TrailNeutral.nat;rw [Int.toNat_natCast,hdec];exact b2) (by rw [Int.toNat_natCast,fits_of B.rel];exact decide_eq_true b3) j (by rw [Int.toNat_natCast];exact hj)
       rw [B.rel.len] at this;omega
     . rw [zG9];refine qC hstep q a3.symm (by rw [st];exact B.rel) ?_;rw [st];generalize zCh g (!decide (n<=10000)) (zg rl row g).length=u;show (if u < 0 then [u] else _)=_;split
       . simp [zDh]
       . rfl
   . refine hid fun Z_ z_=>?_;obtain ⟨b0,k,sl,a1,a2,a3,a4⟩:=zF5 (n:=2) rfl hc;obtain ⟨v,hv,hd⟩:=drop_one (ns:=ns) (i:=i) (by omega);obtain ⟨v2,hv2,hd2⟩:=drop_one (ns:=ns) (i:=i+1) (by rw [List.length_drop] at b0 ⊢;omega);rw [hd,hd2] at a1 a3;simp only [List.drop_succ_cons,List.drop_zero,List.take_succ_cons,List.take_zero] at a1 a3;obtain ⟨k',hk,hd'⟩:=drop_one (ns:=ns) (i:=i+1+1) (by rw [a1];simp);refine z_ ?_;clear z_;rw [a1] at hd';injection hd' with hd1 hd3;subst hd1 a3;refine hid fun Z_ z_=>?_;have hb0:(TrailNeutral.whole32 v && TrailNeutral.whole32 v2 && TrailNeutral.long (sl.take k) 66000 0 255)=true:=hask;rw [Bool.and_eq_true,Bool.and_eq_true] at hb0;have v0:=w32 hb0.1.1;have v1:=w32 hb0.1.2;have hb:=zNP hb0.2;obtain ⟨g,rfl⟩ : ∃ g:Nat,v=(g:Int):=⟨v.toNat,by omega⟩;obtain ⟨f,rfl⟩ : ∃ f:Nat,v2=(f:Int):=⟨v2.toNat,by omega⟩;refine z_ ?_;clear z_;have st:=zV8 B.rel (g:=(g:Int)) (i:=(f:Int)) hb.2;simp only [Int.toNat_natCast] at st;have hlen:i+1+1+1+k<=ns.length:=by
       have:=congrArg List.length hd3;rw [List.length_drop] at this;have:=(List.getElem?_eq_some_iff.mp hk).1;omega
     have ht:ns.drop (i+1+1+1+k)=t:=(by rw [a4,hd3,List.drop_drop]);refine ⟨_,_,hcu,rfl,cu,dx,a,i,ns,g,rfl,hcu,hsq,hv,rfl,?_⟩;rw [if_neg (by decide)];refine ⟨rfl,?_⟩;rw [if_neg (by decide)];refine ⟨rfl,?_⟩;rw [if_neg (by decide)];refine ⟨rfl,?_⟩;rw [if_pos (by decide)];refine ⟨_,_,zB,rfl,cu,dx,a,i+1,ns,f,rfl,zB,zAw hsq hcu,hv2,?_⟩;rw [z5];refine ⟨_,_,zB,rfl,cu,dx,a,i+1+1,k,ns,rfl,zB,zAw hsq hcu,hk,hlen,fun p np=>?_⟩;rw [<- hd3,z5];have np0:H p=none:=by
       by_cases z:p=cu
       . rw [z,zB] at np;cases np
       . rw [zF z] at np;exact np
     have hw1:=B.wat.off (o:=cuO A.za dx a (i+1+1+1+k)) hcu ncu;have np1:(upd H cu (cuO A.za dx a (i+1+1+1+k))) p=none:=by rw [zF (fun z:p=cu=>by rw [z,hcu] at np0;cases np0)];exact np0
     have s1:=zK (o:=.lst ((sl.take k).map V.int)) np1;have hlk:(sl.take k).length<=66000:=hb.1;refine ⟨x,m,g,s.m,p,sl.take k,f,row,rl,l,rfl,hw1.mono s1,QJ hw1.taken np1,by omega,by omega,zEQ B.rel (bad:=qw (sl.take k)) (by simp) (by rw [<- zZJ];exact hwt),?_⟩;refine (qC hstep q ht (by rw [st];exact B.rel) ?_).mono s1;rw [st];have:=zNV (g:=g) (ok:=!qw (sl.take k)) (n:=(zg rl row g).length) (a:=zQf (zg rl row g) (sl.take k) f) (by unfold zQf;split <;> rfl);rw [Bool.not_not] at this;exact this
   . refine hid fun Z_ z_=>?_;obtain ⟨b0,k,sl,a1,a2,a3,a4⟩:=zF5 (n:=1) rfl hc;obtain ⟨v,hv,hd⟩:=drop_one (ns:=ns) (i:=i) (by omega);rw [hd] at a1 a3;simp only [List.drop_succ_cons,List.drop_zero,List.take_succ_cons,List.take_zero] at a1 a3;obtain ⟨k',hk,hd'⟩:=drop_one (ns:=ns) (i:=i+1) (by rw [a1];simp);refine z_ ?_;clear z_;rw [a1] at hd';injection hd' with hd1 hd3;subst hd1 a3;have hb0:(TrailNeutral.whole32 v && TrailNeutral.long (sl.take k) 66000 0 255)=true:=hask;rw [Bool.and_eq_true] at hb0;have v0:=w32 hb0.1;have hb:=zNP hb0.2;obtain ⟨g,rfl⟩ : ∃ g:Nat,v=(g:Int):=⟨v.toNat,by omega⟩;have st:=zUH B.rel (g:=(g:Int)) hb.2;simp only [Int.toNat_natCast] at st;have hlen:i+1+1+k<=ns.length:=by
       have:=congrArg List.length hd3;rw [List.length_drop] at this;have:=(List.getElem?_eq_some_iff.mp hk).1;omega
     have ht:ns.drop (i+1+1+k)=t:=(by rw [a4,hd3,List.drop_drop]);refine ⟨_,_,hcu,rfl,cu,dx,a,i,ns,g,rfl,hcu,hsq,hv,rfl,?_⟩;rw [if_neg (by decide)];refine ⟨rfl,?_⟩;rw [if_neg (by decide)];refine ⟨rfl,?_⟩;rw [if_neg (by decide)];refine ⟨rfl,?_⟩;rw [if_neg (by decide)];refine ⟨_,_,zB,rfl,cu,dx,a,i+1,k,ns,rfl,zB,zAw hsq hcu,hk,hlen,fun p np=>?_⟩;rw [<- hd3,z5];have np0:H p=none:=by
       by_cases z:p=cu
       . rw [z,zB] at np;cases np
       . rw [zF z] at np;exact np
     have hw1:=B.wat.off (o:=cuO A.za dx a (i+1+1+k)) hcu ncu;have np1:(upd H cu (cuO A.za dx a (i+1+1+k))) p=none:=by rw [zF (fun z:p=cu=>by rw [z,hcu] at np0;cases np0)];exact np0
     have s1:=zK (o:=.lst ((sl.take k).map V.int)) np1;have hlk:(sl.take k).length<=66000:=hb.1;refine ⟨x,m,g,s.m,p,sl.take k,row,rl,l,rfl,hw1.mono s1,QJ hw1.taken np1,by omega,zEQ B.rel (bad:=qw (sl.take k)) (by simp) (by rw [<- zZJ];exact hwt),?_⟩;refine (qC hstep q ht (by rw [st];exact B.rel) ?_).mono s1;rw [st];have:=zNV (g:=g) (ok:=!qw (sl.take k)) (n:=(zg rl row g).length) (a:=Trail.tells 0 [((Zx (sl.take k) (zg rl row g) 0 (zg rl row g).length).length:Int)]) rfl;rw [Bool.not_not] at this;exact this
end
section
inductive zUd (K:Fg)(A:Ad)(vs:List V)(H:Hp)(Q:VK)(E:XK):Prop | m (x cu a:Addr)(ns:List Int)(i:Nat)(l:List Addr)(m:Int)(row:List Int)(rl:RL)(s:Trail.World)(p:Int)(c:List (List Int))(t:List Int)(_:vs=[.ref x,.int p,.ref cu])(_:zKk K A H x cu a ns i l m row rl s)(_:11<=p)(_:p<=16)(_:PyFlat.call PyWqazat.shape (p :: ns.drop i)=some (c,t))(_:TrailNeutral.asked1 c=true)(_:TrailNeutral.weight s c<=100000)(_:∀ r H',Did K A H x cu a ns l s c t r H'->Q (.ref r) H')
theorem zL3 (T:Txt K mg A):qM P w K mg base CX0 8 A.Jq A.zBb ["world","call","cursor"] (zUd K A):=by
 refine T.J4.okc zC1 fun vs H Q E h=>?_
 . obtain ⟨x,cu,a,ns,i,l,m,row,rl,s,p,c,t,rfl,B,p1,p2,hc,hask,hwt,q⟩:=h;refine ⟨rfl,fun _ _ _ _ hr=>⟨_,(zC (sA 3 zC1.nd (mA0 (pv 2) T.zj T.zq (zu T) hr (bd1 T.zh))) (zC (z6 (zS QC (pv 1) (zb rfl T.zOk) (zX _)) (zE (zN (cA (zI7 T) hr T.zB7 T.Zg (bd2 T.Zg) (zA (pv 0) (zA (pv 3) zD))))) zR) (zC (sA 4 zC1.nd (mA0 (pv 2) T.zj T.zq (zu T) hr (bd1 T.zh))) (zC (z6 (zS QC (pv 1) (zb rfl T.zMG) (zX _)) (zE (zN (cA (zJD T) hr T.zB5 T.Ze (bd3 T.Ze) (zA (pv 0) (zA (pv 3) (zA (pv 4) zD)))))) zR) (zC (z6 (zS QC (pv 1) (zb rfl T.zOj) (zX _)) (zE (zN (cA (zJB T) hr T.zB6 T.Zf (bd3 T.Zf) (zA (pv 0) (zA (pv 3) (zA (pv 4) zD)))))) zR) (zC (z6 (zS QC (pv 1) (zb rfl T.zWf) (zX _)) (zE (zN (cA (zL2 T) hr T.zEg T.Jx (bd3 T.Jx) (zA (pv 0) (zA (pv 3) (zA (pv 4) zD)))))) zR) (zC (z6 (zS QC (pv 1) (zb rfl T.zOl) (zX _)) (zE (zN (cA (zI9 T) hr T.zB8 T.Zh (bd3 T.Zh) (zA (pv 0) (zA (pv 3) (zA (pv 4) zD)))))) zR) (zE (zN (cA (zJ5 T) hr T.zDR T.Qn (bd4 T.Qn) (zA (pv 0) (zA (pv 3) (zA (pv 4) (zA (mA0 (pv 2) T.zj T.zq (zu T) hr (bd1 T.zh)) zD)))))))))))))),?_⟩⟩;show Zv _ _ _ [some (.ref x),some (.int p),some (.ref cu),none,none] H;obtain ⟨dx,hcu,ncu,hsq,hstep⟩:=B.cur.step;have big:=sizeLine_eq;walk_at "dd";have hp:p=11\/p=12\/p=13\/p=14\/p=15\/p=16:=(by omega);rcases hp with rfl | rfl | rfl | rfl | rfl | rfl
   . refine hid fun Z_ z_=>?_;obtain ⟨a1,a2,a3⟩:=call_num (n:=2) rfl hc;obtain ⟨v,hv,hd⟩:=drop_one (ns:=ns) (i:=i) (by omega);obtain ⟨v2,hv2,hd2⟩:=drop_one (ns:=ns) (i:=i+1) (by rw [List.length_drop] at a1 ⊢;omega);rw [hd,hd2] at a2 a3;simp only [List.take_succ_cons,List.take_zero,List.drop_succ_cons,List.drop_zero] at a2 a3;subst a2;have hb:(TrailNeutral.whole32 v && TrailNeutral.whole32 v2)=true:=hask;rw [Bool.and_eq_true] at hb;have v0:=w32 hb.1;have v1:=w32 hb.2;obtain ⟨g,rfl⟩ : ∃ g:Nat,v=(g:Int):=⟨v.toNat,by omega⟩;obtain ⟨f,rfl⟩ : ∃ f:Nat,v2=(f:Int):=⟨v2.toNat,by omega⟩;refine z_ ?_;clear z_;have st:=zUI B.rel (g:=(g:Int)) (i:=(f:Int));simp only [Int.toNat_natCast] at st;refine ⟨_,_,hcu,rfl,cu,dx,a,i,ns,g,rfl,hcu,hsq,hv,rfl,?_⟩;rw [if_neg (by decide)];refine ⟨_,_,zB,rfl,cu,dx,a,i+1,ns,f,rfl,zB,zAw hsq hcu,hv2,?_⟩;rw [z5];refine ⟨rfl,?_⟩;rw [if_pos (by decide)];refine ⟨x,m,g,s.m,f,row,rl,l,rfl,B.wat.off hcu ncu,zEQ B.rel (bad:=false) rfl hwt,?_⟩;refine qC hstep q a3.symm (by rw [st];exact B.rel) ?_;rw [st];exact zNV (ok:=true) (by unfold zKX;split <;> rfl)
   . refine hid fun Z_ z_=>?_;obtain ⟨a1,a2,a3⟩:=call_num (n:=2) rfl hc;obtain ⟨v,hv,hd⟩:=drop_one (ns:=ns) (i:=i) (by omega);obtain ⟨v2,hv2,hd2⟩:=drop_one (ns:=ns) (i:=i+1) (by rw [List.length_drop] at a1 ⊢;omega);rw [hd,hd2] at a2 a3;simp only [List.take_succ_cons,List.take_zero,List.drop_succ_cons,List.drop_zero] at a2 a3;subst a2;have hb:(TrailNeutral.whole32 v && TrailNeutral.whole32 v2)=true:=hask;rw [Bool.and_eq_true] at hb;have v0:=w32 hb.1;have v1:=w32 hb.2;obtain ⟨g,rfl⟩ : ∃ g:Nat,v=(g:Int):=⟨v.toNat,by omega⟩;obtain ⟨f,rfl⟩ : ∃ f:Nat,v2=(f:Int):=⟨v2.toNat,by omega⟩;refine z_ ?_;clear z_;have st:=zUJ B.rel (g:=(g:Int)) (i:=(f:Int));simp only [Int.toNat_natCast] at st;refine ⟨_,_,hcu,rfl,cu,dx,a,i,ns,g,rfl,hcu,hsq,hv,rfl,?_⟩;rw [if_neg (by decide)];refine ⟨_,_,zB,rfl,cu,dx,a,i+1,ns,f,rfl,zB,zAw hsq hcu,hv2,?_⟩;rw [z5];refine ⟨rfl,?_⟩;rw [if_neg (by decide)];refine ⟨rfl,?_⟩;rw [if_pos (by decide)];refine ⟨x,m,g,s.m,f,row,rl,l,rfl,B.wat.off hcu ncu,zEQ B.rel (bad:=false) rfl hwt,?_⟩;refine qC hstep q a3.symm (by rw [st];exact B.rel) ?_;rw [st];exact zNV (ok:=true) (by unfold zKY;split <;> rfl)
   . refine hid fun Z_ z_=>?_;obtain ⟨a1,a2,a3⟩:=call_num (n:=2) rfl hc;obtain ⟨v,hv,hd⟩:=drop_one (ns:=ns) (i:=i) (by omega);obtain ⟨v2,hv2,hd2⟩:=drop_one (ns:=ns) (i:=i+1) (by rw [List.length_drop] at a1 ⊢;omega);rw [hd,hd2] at a2 a3;simp only [List.take_succ_cons,List.take_zero,List.drop_succ_cons,List.drop_zero] at a2 a3;subst a2;have hb:(TrailNeutral.whole32 v && TrailNeutral.whole32 v2)=true:=hask;rw [Bool.and_eq_true] at hb;have v0:=w32 hb.1;have v1:=w32 hb.2;obtain ⟨g,rfl⟩ : ∃ g:Nat,v=(g:Int):=⟨v.toNat,by omega⟩;obtain ⟨f,rfl⟩ : ∃ f:Nat,v2=(f:Int):=⟨v2.toNat,by omega⟩;refine z_ ?_;clear z_;have st:=zXv B.rel (g:=(g:Int)) (d:=(f:Int));simp only [Int.toNat_natCast] at st;refine ⟨_,_,hcu,rfl,cu,dx,a,i,ns,g,rfl,hcu,hsq,hv,rfl,?_⟩;rw [if_neg (by decide)];refine ⟨_,_,zB,rfl,cu,dx,a,i+1,ns,f,rfl,zB,zAw hsq hcu,hv2,?_⟩;rw [z5];refine ⟨rfl,?_⟩;rw [if_neg (by decide)];refine ⟨rfl,?_⟩;rw [if_neg (by decide)];refine ⟨rfl,?_⟩;rw [if_pos (by decide)];refine ⟨x,m,g,s.m,f,row,rl,l,rfl,B.wat.off hcu ncu,zEQ B.rel (bad:=false) rfl hwt,?_⟩;refine qC hstep q a3.symm (by rw [st];exact B.rel) ?_;rw [st];exact zNV (ok:=true) (by rfl)
   . refine hid fun Z_ z_=>?_;obtain ⟨a1,a2,a3⟩:=call_num (n:=1) rfl hc;obtain ⟨v,hv,hd⟩:=drop_one a1;rw [hd] at a2 a3;simp only [List.take_succ_cons,List.take_zero,List.drop_succ_cons,List.drop_zero] at a2 a3;subst a2;have v0:=w32 (show TrailNeutral.whole32 v=true from hask);obtain ⟨g,rfl⟩ : ∃ g:Nat,v=(g:Int):=⟨v.toNat,by omega⟩;refine z_ ?_;clear z_;have st:=zUK B.rel (g:=(g:Int));simp only [Int.toNat_natCast] at st;refine ⟨_,_,hcu,rfl,cu,dx,a,i,ns,g,rfl,hcu,hsq,hv,rfl,?_⟩;rw [if_pos (by decide)];refine ⟨x,m,g,s.m,row,rl,l,rfl,B.wat.off hcu ncu,zEQ B.rel (bad:=false) rfl hwt,?_⟩;refine qC hstep q a3.symm (by rw [st];exact B.rel) ?_;rw [st];exact zNV (ok:=true) rfl
   . refine hid fun Z_ z_=>?_;obtain ⟨a1,a2,a3⟩:=call_num (n:=2) rfl hc;obtain ⟨v,hv,hd⟩:=drop_one (ns:=ns) (i:=i) (by omega);obtain ⟨v2,hv2,hd2⟩:=drop_one (ns:=ns) (i:=i+1) (by rw [List.length_drop] at a1 ⊢;omega);rw [hd,hd2] at a2 a3;simp only [List.take_succ_cons,List.take_zero,List.drop_succ_cons,List.drop_zero] at a2 a3;subst a2;have hb:(TrailNeutral.whole32 v && TrailNeutral.whole32 v2)=true:=hask;rw [Bool.and_eq_true] at hb;have v0:=w32 hb.1;have v1:=w32 hb.2;obtain ⟨g,rfl⟩ : ∃ g:Nat,v=(g:Int):=⟨v.toNat,by omega⟩;obtain ⟨f,rfl⟩ : ∃ f:Nat,v2=(f:Int):=⟨v2.toNat,by omega⟩;refine z_ ?_;clear z_;have st:=zUL B.rel (g:=(g:Int)) (n:=(f:Int));simp only [Int.toNat_natCast] at st;refine ⟨_,_,hcu,rfl,cu,dx,a,i,ns,g,rfl,hcu,hsq,hv,rfl,?_⟩;rw [if_neg (by decide)];refine ⟨_,_,zB,rfl,cu,dx,a,i+1,ns,f,rfl,zB,zAw hsq hcu,hv2,?_⟩;rw [z5];refine ⟨rfl,?_⟩;rw [if_neg (by decide)];refine ⟨rfl,?_⟩;rw [if_neg (by decide)];refine ⟨rfl,?_⟩;rw [if_neg (by decide)];refine ⟨rfl,?_⟩;rw [if_pos (by decide)];refine ⟨x,m,g,s.m,f,row,rl,l,rfl,B.wat.off hcu ncu,zEQ B.rel (bad:=(decide (1000 < f))) not_le hwt,?_⟩;refine qC hstep q a3.symm (by rw [st];exact B.rel) ?_;rw [st];rw [not_le];exact zNV (ok:=(decide (f<=1000))) (by unfold zM5;split <;> rfl)
   . refine hid fun Z_ z_=>?_;obtain ⟨a1,a2,a3⟩:=call_num (n:=3) rfl hc;obtain ⟨v,hv,hd⟩:=drop_one (ns:=ns) (i:=i) (by omega);obtain ⟨v2,hv2,hd2⟩:=drop_one (ns:=ns) (i:=i+1) (by rw [List.length_drop] at a1 ⊢;omega);obtain ⟨v3,hv3,hd3⟩:=drop_one (ns:=ns) (i:=i+1+1) (by rw [List.length_drop] at a1 ⊢;omega);rw [hd,hd2,hd3] at a2 a3;simp only [List.take_succ_cons,List.take_zero,List.drop_succ_cons,List.drop_zero] at a2 a3;subst a2;have hb:(TrailNeutral.whole32 v && TrailNeutral.whole32 v2 && TrailNeutral.whole32 v3)=true:=hask;rw [Bool.and_eq_true,Bool.and_eq_true] at hb;have v0:=w32 hb.1.1;have v1:=w32 hb.1.2;have v4:=w32 hb.2;obtain ⟨g,rfl⟩ : ∃ g:Nat,v=(g:Int):=⟨v.toNat,by omega⟩;obtain ⟨f,rfl⟩ : ∃ f:Nat,v2=(f:Int):=⟨v2.toNat,by omega⟩;obtain ⟨k,rfl⟩ : ∃ k:Nat,v3=(k:Int):=⟨v3.toNat,by omega⟩;refine z_ ?_;clear z_;have st:=zWA B.rel (g:=(g:Int)) (i:=(f:Int)) (n:=(k:Int));simp only [Int.toNat_natCast] at st;refine ⟨_,_,hcu,rfl,cu,dx,a,i,ns,g,rfl,hcu,hsq,hv,rfl,?_⟩;rw [if_neg (by decide)];refine ⟨_,_,zB,rfl,cu,dx,a,i+1,ns,f,rfl,zB,zAw hsq hcu,hv2,?_⟩;rw [z5];refine ⟨rfl,?_⟩;rw [if_neg (by decide)];refine ⟨rfl,?_⟩;rw [if_neg (by decide)];refine ⟨rfl,?_⟩;rw [if_neg (by decide)];refine ⟨rfl,?_⟩;rw [if_neg (by decide)];refine ⟨_,_,zB,rfl,cu,dx,a,i+1+1,ns,k,rfl,zB,zAw hsq hcu,hv3,?_⟩;rw [z5];refine ⟨x,m,g,s.m,f,k,row,rl,l,rfl,B.wat.off hcu ncu,zEQ B.rel (bad:=(decide (1000 < k))) not_le hwt,?_⟩;refine qC hstep q a3.symm (by rw [st];exact B.rel) ?_;rw [st,not_le];exact zNV (ok:=(decide (k<=1000))) rfl
end
section
theorem Did.back {H:Hp}{x cu a:Addr}{ns:List Int}{l:List Addr}{s:Trail.World}{c:List (List Int)}{t:List Int}{r:Addr}{H' : Hp}{o:HO}(h:Did K A (upd H cu o) x cu a ns l s c t r H'):Did K A H x cu a ns l s c t r H':=by obtain ⟨l',j,m',zGf,rl',n,li,tx,h1,h2⟩:=h.all;refine ⟨l',j,m',zGf,rl',n,li,tx,?_,h2⟩;unfold Kept at h1;rw [zPp List.mem_cons_self] at h1;exact h1
inductive zOV (K:Fg)(A:Ad)(vs:List V)(H:Hp)(Q:VK)(E:XK):Prop | m (x cu a:Addr)(ns:List Int)(i:Nat)(l:List Addr)(m:Int)(row:List Int)(rl:RL)(s:Trail.World)(p:Int)(r:List Int)(c:List (List Int))(t:List Int)(_:vs=[.ref x,.ref cu])(_:zKk K A H x cu a ns i l m row rl s)(_:ns.drop i=p :: r)(_:1<=p)(_:p<=16)(_:PyFlat.call PyWqazat.shape (ns.drop i)=some (c,t))(_:TrailNeutral.asked1 c=true)(_:TrailNeutral.weight s c<=100000)(_:∀ r H',Did K A H x cu a ns l s c t r H'->Q (.ref r) H')
theorem zOW (T:Txt K mg A):qM P w K mg base CX0 10 A.zCU A.zE5 ["world","cursor"] (zOV K A):=by
 refine T.zCZ.okc zIh fun vs H Q E h=>?_
 . obtain ⟨x,cu,a,ns,i,l,m,row,rl,s,p,r,c,t,rfl,B,hd,p1,p2,hc,hask,hwt,q⟩:=h;refine ⟨rfl,fun _ _ _ _ hr=>⟨_,(zC (sA 2 zIh.nd (mA0 (pv 1) T.zj T.zq (zu T) hr (bd1 T.zh))) (zC (z6 (zKw zDl zDl (zb rfl T.zMF) (pv 2) (zb rfl T.zOf)) (zE (zN (cA (zJy T) hr T.zDW T.Qv (bd3 T.Qv) (zA (pv 0) (zA (pv 2) (zA (pv 1) zD)))))) zR) (zC (z6 (zKw zDl zDl (zb rfl T.zHx) (pv 2) (zb rfl T.zOi)) (zE (zN (cA (zJ6 T) hr T.zDX T.Qw (bd3 T.Qw) (zA (pv 0) (zA (pv 2) (zA (pv 1) zD)))))) zR) (zC (z6 (zKw zDl zDl (zb rfl T.zMG) (pv 2) (zb rfl T.zTN)) (zE (zN (cA (zL3 T) hr T.zEk T.J4 (bd3 T.J4) (zA (pv 0) (zA (pv 2) (zA (pv 1) zD)))))) zR) (zE zTZ))))),?_⟩⟩;show Zv _ _ _ [some (.ref x),some (.ref cu),none] H;obtain ⟨dx,hcu,ncu,hsq,hstep⟩:=B.cur.step;obtain ⟨v,hv,hd2⟩:=drop_one (ns:=ns) (i:=i) (by rw [hd];simp);rw [hd] at hd2;injection hd2 with e1 e2;subst e1;rw [hd,e2] at hc;walk_at "dd";refine ⟨_,_,hcu,rfl,cu,dx,a,i,ns,p,rfl,hcu,hsq,hv,?_⟩;have B1:zKk K A (upd H cu (cuO A.za dx a (i+1))) x cu a ns (i+1) l m row rl s:=⟨hstep (i+1),B.wat.off hcu ncu,B.rel⟩;refine ⟨p,rfl,?_⟩;rw [if_pos (decide_eq_true p1)];refine ⟨p,rfl,?_⟩;by_cases c1:p<=5
   . rw [if_pos (decide_eq_true c1)];exact ⟨x,cu,a,ns,i+1,l,m,row,rl,s,p,c,t,rfl,B1,p1,c1,hc,hask,fun r H' d=>q r H' d.back⟩
   . rw [if_neg (by simpa using c1)];refine ⟨p,rfl,?_⟩;rw [if_pos (decide_eq_true (by omega))];refine ⟨p,rfl,?_⟩;by_cases c2:p<=10
     . rw [if_pos (decide_eq_true c2)];exact ⟨x,cu,a,ns,i+1,l,m,row,rl,s,p,c,t,rfl,B1,by omega,c2,hc,hask,hwt,fun r H' d=>q r H' d.back⟩
     . rw [if_neg (by simpa using c2)];refine ⟨p,rfl,?_⟩;rw [if_pos (decide_eq_true (by omega))];refine ⟨p,rfl,?_⟩;rw [if_pos (decide_eq_true p2)];exact ⟨x,cu,a,ns,i+1,l,m,row,rl,s,p,c,t,rfl,B1,by omega,p2,hc,hask,hwt,fun r H' d=>q r H' d.back⟩
theorem WAt.zYx {H H' : Hp}{x:Addr}{m:Int}{row:List Int}{rl:RL}{l:List Addr}(h:WAt A H x m row rl l)(k:∀ b u,H b=some u->(∀ o' u',u≠.frz o' u')->H' b=some u):WAt A H' x m row rl l:=by
 obtain ⟨dw,fr,d,tv,h1,h2,h3,h4⟩:=h.at_;have kh:∀ (l:List Addr) b u,hide H l b=some u->(∀ o' u',u≠.frz o' u')->hide H' l b=some u:=fun l b u e n=>by obtain ⟨e1,e2⟩:=zG.mp e;exact zG.mpr ⟨e1,k _ _ e2 n⟩
 refine ⟨dw,fr,d,tv,k _ _ h1 (fun _ _ z=>by cases z),kh _ _ _ h2 (fun _ _ z=>by cases z),?_,?_⟩
 . obtain ⟨kvs,e1,e2⟩:=h3;exact ⟨kvs,kh _ _ _ e1 (fun _ _ z=>by cases z),Paired.zFH e2 fun kv y h=>⟨h.1,let ⟨r,u1,u2⟩:=h.2;⟨r,u1,kh _ _ _ u2 (fun _ _ z=>by cases z)⟩⟩⟩
 . rcases h4 with h4 | ⟨t,bg,e1,e2,e3,tl⟩
   . exact .inl h4
   . refine .inr ⟨t,bg,e1,e2,e3,?_⟩;obtain ⟨dt,bl,gs,i1,i2,i3,i4,i5,i6,i7,i8⟩:=tl.at_;obtain ⟨kvs,u1,u2⟩:=i8;exact ⟨dt,bl,gs,k _ _ i1 (fun _ _ z=>by cases z),k _ _ i2 (fun _ _ z=>by cases z),i3,i4,i5,i6,fun j r hj=>k _ _ (i7 j r hj) (fun _ _ z=>by cases z),kvs,kh _ _ _ u1 (fun _ _ z=>by cases z),Paired.zFH u2 fun kv y h=>⟨h.1,let ⟨r,w1,w2⟩:=h.2;⟨r,w1,kh _ _ _ w2 (fun _ _ z=>by cases z)⟩⟩⟩
structure Mid (K:Fg)(A:Ad)(H' : Hp)(x cu a to:Addr)(ns:List Int)(n:Nat):Prop where
 mk ::
 all:∃ (i:Nat) (l:List Addr) (m:Int) (row:List Int) (rl:RL) (s:Trail.World) (cs:List (List (List Int))) (f bud:Nat) (acc:List Int),n=cs.length/\zKk K A (hide H' [to]) x cu a ns i l m row rl s/\H' to=some (.lst (acc.map V.int))/\
   PyFlat.calls PyWqazat.shape f (ns.drop i)=some cs/\(∀ c∈cs,TrailNeutral.asked1 c=true)/\TrailNeutral.light bud s cs=true/\bud<=100000/\acc ++ PyFlat.told (PyFlat.played TrailNeutral.step s cs)=PyWqazat.answers ns
theorem zUe {p:Int}{r:List Int}{c:List (List Int)}{t:List Int}(h:PyFlat.call PyWqazat.shape (p :: r)=some (c,t)):1<=p/\p<=16:=by
 unfold PyFlat.call at h;cases e:PyWqazat.shape p with
 | none=>simp [e] at h
 | some z =>
   by_cases c:1<=p/\p<=16
   . exact c
   . exfalso;unfold PyWqazat.shape at e
     repeat (first | (rw [if_neg (by omega)] at e) | cases e)
inductive zKo (K:Fg)(vs:List V)(H:Hp)(Q:VK)(E:XK):Prop | m (a:Addr)(ns:List Int)(_:vs=[.ref a])(_:SqL K H a (ns.map V.int))(_:PyWqazat.answers_asked ns=true)(_:∀ p H',H' p=some (.lst ((PyWqazat.answers ns).map V.int))->Q (.ref p) H')
theorem zQ6 (T:Txt K mg A):qM P w K mg base CX0 11 A.zCV A.zEa ["calls"] (zKo K):=by
 refine T.zGc.okc zCL fun vs H Q E h=>?_
 . obtain ⟨a,ns,rfl,hsq,hask,q⟩:=h;obtain ⟨cs0,as⟩:=zT8 hask;have big:=sizeLine_eq;refine ⟨rfl,fun _ _ _ _ hr=>⟨_,(zC (zMP (i:=1) zCL.nd rfl (Or.inl rfl) (zTe T.zOa (zLn T) (hr.mono (by decide)) rfl T.zOZ (bd1 T.zBd) .nil zBj)) (zC (zMP (i:=2) zCL.nd rfl (Or.inl rfl) (zBi T.zMC (zJt T) (hr.mono (by decide)) rfl T.zMB (bd2 T.zAZ) .nil zBj (zA (pv 0) zD))) (zC (zMP (i:=3) zCL.nd rfl (Or.inl rfl) (qY zD)) (zC (zEl PassesOwn.never (zDa (qQ (zKy (pv 2) T.zj T.zBJ (zHf T) (hr.mono (by decide)) (bd1 T.Qu) .nil zBj) (fun _=>rfl))) (zC (zLA (zMP (i:=4) zCL.nd rfl (Or.inl rfl) (zKy (zFN (zOW T) (hr.mono (by decide)) rfl T.zHB T.zCZ.kp (bd2 T.zCZ) .nil zBj (zA (pv 1) (zA (pv 2) zD))) T.qR T.zDH (zJr T) (hr.mono (by decide)) (bd1 T.zAX) .nil zBj))) (zC (z7 (zFv PySem.F.plainAttrs_list PySem.F.slot_list_append PySem.F.type_list_append zAj (pv 3) (zA (zd zQ (by rfl) T.QB PySem.boot_len (zA (pv 4) zD)) zD))) (zE (z7 (zFv PySem.F.plainAttrs_list PySem.F.slot_list_extend PySem.F.type_list_extend zDo (pv 3) (zA (pv 4) zD))))))) (zE (zN (pv 3))))))),?_⟩⟩;show Zv _ _ _ [some (.ref a),none,none,none,none] H;walk_at "dd";intro x dx nx ndx nxd;refine ⟨x,dx,rfl,zB,fun H1 sm1 hw1=>⟨rfl,fun cu dc ncu ndc ndcu=>?_⟩⟩;have hsqH:SqL K (hide H1 [x]) a (ns.map V.int):=by
     have s0:zz H (hide (upd (upd H dx (.own x)) x (.ins A.qB dx [])) [x]):=fun b o e=>zG.mpr ⟨by simpa using zI e nx,by rw [zF (zI e nx),zF (zI e ndx)];exact e⟩;exact (s0.trans sm1).seq hsq
   refine ⟨cu,dc,a,rfl,zB,rfl,Nat.zero_le _,fun to nto=>?_⟩;rw [z5] at nto ⊢;have hxc:x≠cu:=fun z=>by obtain ⟨o,e⟩:=hw1.taken x hw1.own;rw [z,ncu] at e;cases e
   have s2:zz H1 (upd (upd H1 dc (.own cu)) cu (.ins A.za dc [("numbers",.ref a),("place",.int 0)])):=fun b o e=>by rw [zF (zI e ncu),zF (zI e ndc)];exact e
   have s3:zz H1 (hide (upd (upd (upd H1 dc (.own cu)) cu (.ins A.za dc [("numbers",.ref a),("place",.int 0)])) to (.lst [])) [to]):=fun b o e=>zG.mpr ⟨by simpa using zI (s2 _ _ e) nto,zK nto _ _ (s2 _ _ e)⟩;have cuto:cu≠to:=zI zB nto;have xto:to≠x:=fun z=>by obtain ⟨o,e⟩:=hw1.taken x hw1.own;rw [z,s2 _ _ e] at nto;cases nto
   refine ⟨fun n Z H'=>∃ v4:Option V,Z=[some (.ref a),some (.ref x),some (.ref cu),some (.ref to),v4]/\Mid K A H' x cu a to ns n,⟨cs0.length,none,rfl,0,[x],4,[],[],TrailNeutral.start,cs0,ns.length,100000,[],rfl,⟨⟨dc,?_,?_⟩,hw1.mono s3,j8.start (m:=4) (by decide)⟩,zB,as.dec,?_,?_,Nat.le_refl _,?_⟩,?_⟩
   . refine zG.mpr ⟨by simpa using fun z:cu=x=>hxc z.symm,zG.mpr ⟨by simpa using cuto,?_⟩⟩;rw [zF cuto,zB];rfl
   . exact (zZ s3).seq hsqH
   . intro c hc;have:=as.one c hc;rw [zPd] at this;exact this
   . have:=as.light;rw [zVI] at this;exact this
   . have:=as.due;rw [zVI] at this;rw [List.nil_append,this]
   . rintro n Z H' ⟨v4,rfl,M⟩;refine hid fun Z_ z_=>?_;obtain ⟨i,l,m,row,rl,s,cs,f,bud,acc,rfl,B,hto,hdec,hone,hlight,hbud,hdue⟩:=M.all;obtain ⟨dcu,hcu,ncul,hsq',hstep⟩:=B.cur.step;refine z_ ?_;clear z_;have cuto:cu≠to:=fun z=>by
       obtain ⟨u1,_⟩:=zG.mp hcu;exact u1 (by rw [z];simp)
     have hcu':=(zG.mp hcu).2;have hsq1:=zS8 hsq';have nl:∀ b∈l,b≠to:=fun b hb z=>by obtain ⟨o,e⟩:=B.wat.taken b hb;exact (zG.mp e).1 (by rw [z];simp)
     walk_at "dd";refine ⟨_,_,hcu',rfl,cu,dcu,a,i,ns,rfl,hcu',hsq1,decide (ns.length<=i),rfl,?_⟩;by_cases c1:ns.length<=i
     . rw [if_neg (by simp [c1])];rw [List.drop_eq_nil_of_le c1] at hdec;rw [zST hdec] at hdue;have e:PyFlat.told (PyFlat.played TrailNeutral.step s [])=[]:=rfl;rw [e,List.append_nil] at hdue;rw [hdue] at hto;exact q to H' hto
     . rw [if_pos (by simp [c1])];refine hid fun Z_ z_=>?_;obtain ⟨p,hp,hd⟩:=drop_one (ns:=ns) (i:=i) (by rw [List.length_drop];omega);rw [hd] at hdec;obtain ⟨f',c,t,cs',hcall,hdec',rfl⟩:=zQZ hdec;have ha1:=hone c List.mem_cons_self;obtain ⟨w1,w2⟩:=zQg ha1 hlight;refine z_ ?_;clear z_;refine ⟨fun Z' H2=>∃ v4:Option V,Z' = [some (.ref a),some (.ref x),some (.ref cu),some (.ref to),v4]/\Mid K A H2 x cu a to ns cs'.length,fun Z' H2 h=>⟨cs'.length,by rw [List.length_cons];omega,h⟩,to,_,hto,trivial,fun od=>?_⟩;have sF:zz (hide H' [to]) (upd H' to (.frz od (.lst (acc.map V.int)))):=fun b o e=>by
         obtain ⟨u1,u2⟩:=zG.mp e;rw [zF (by simpa using u1)];exact u2
       have pb:=zUe hcall;refine ⟨x,cu,a,ns,i,l,m,row,rl,s,p,_,c,t,rfl,⟨B.cur.same (zZ sF),B.wat.mono sF,B.rel⟩,hd,pb.1,pb.2,by rw [hd];exact hcall,ha1,by omega,fun r H2 D=>⟨r,rfl,?_⟩⟩;refine hid fun Z_ z_=>?_;obtain ⟨l',j,m',zGf,rl',n,li,tx,k1,k2,k3,k4,k5,k6,k7⟩:=D.all;obtain ⟨da,pl,pt,v1,v2,v3⟩:=id k6;refine z_ ?_;clear z_;have sK:zz (hide (hide H' [to]) (cu :: l)) (hide (hide H2 [to]) l'):=fun b o e=>by refine hid fun Z_ z_=>?_;obtain ⟨u1,u2⟩:=Je.mp e;obtain ⟨u3,u4⟩:=zG.mp u2;obtain ⟨u5,u6⟩:=zG.mp u4;have:=k1 b o (Je.mpr ⟨u1,zG.mpr ⟨u3,sF _ _ u4⟩⟩);obtain ⟨y1,y2⟩:=Je.mp this;obtain ⟨y3,y4⟩:=zG.mp y2;refine z_ ?_;clear z_;exact zG.mpr ⟨y3,zG.mpr ⟨u5,y4⟩⟩
       have hto2:H2 to=some (.frz od (.lst (acc.map V.int))):=by have:=k1 to _ (Je.mpr ⟨fun z=>cuto z.symm,zG.mpr ⟨fun z=>nl _ z rfl,zB⟩⟩);exact (zG.mp this).2
       have hdue' : acc ++ (((zDh n li tx).length:Int) :: (zDh n li tx ++ PyFlat.told (PyFlat.played TrailNeutral.step (TrailNeutral.step s c).1 cs')))=PyWqazat.answers ns:=by rw [<- hdue,<- k7];rfl
       have hlen:acc.length+(1+((zDh n li tx).length+(PyFlat.told (PyFlat.played TrailNeutral.step (TrailNeutral.step s c).1 cs')).length)) < 1001200:=by have:=as.short;rw [<- hdue',List.length_append,List.length_cons,List.length_append] at this;omega
       have hfl:li.length+tx.length<=(zDh n li tx).length:=by
         unfold zDh;split
         . rename_i z;rw [z.1,z.2];simp
         . simp only [List.length_cons,List.length_append];omega
       refine ⟨_,_,(zG.mp v1).2,rfl,r,n,li,tx,rfl,k6.mono (zEG _ _),by omega,fun pf H3 s3 npf hpf=>?_⟩;have hto3:=s3 _ _ hto2;have pfto:pf≠to:=fun z=>by rw [z,hto2] at npf;cases npf
       refine ⟨hto3,.inl ⟨rfl,_,SqL.of zB⟩,pf,rfl,_,.inl (SqL.of (by rw [zF pfto];exact hpf)),_,zB,by rw [List.length_map];omega,.inl ⟨rfl,_,SqL.of zB⟩,pf,rfl,_,zB,_,by rw [zF pfto,zF pfto];exact hpf,?_,?_⟩
       . rw [List.length_append,List.length_map,List.length_map];show _+1+_<=_;omega
       . rw [z5,z5,List.length_map];refine ⟨_,rfl,j,l',m',zGf,rl',(TrailNeutral.step s c).1,cs',f',bud - TrailNeutral.weight s c,acc ++ [((zDh n li tx).length:Int)] ++ zDh n li tx,rfl,?_,?_,by rw [k3];exact hdec',fun c hc=>hone c (List.mem_cons_of_mem _ hc),w2,by omega,?_⟩
         . rw [zPp (List.mem_singleton.mpr rfl)];have s4:zz (hide H2 [to]) (hide H3 [to]):=zZ s3;refine ⟨?_,?_,k5⟩
           . refine hid fun Z_ z_=>?_;obtain ⟨dd,y1,y2⟩:=k2;obtain ⟨y3,y4⟩:=zG.mp y1;refine z_ ?_;clear z_;refine ⟨dd,zG.mpr ⟨y3,s4 _ _ (zG.mpr ⟨by simpa using cuto,y4⟩)⟩,?_⟩;obtain ⟨dd',z1,z2⟩:=B.cur;have z3:SqL K (hide (hide H' [to]) (cu :: l)) a (ns.map V.int):=by
               rcases z2 with (z2 | ⟨oo,z2⟩) | z2
               . exact .inl (.inl (Je.mpr ⟨fun z=>(by rw [z,z1] at z2;cases z2),z2⟩))
               . exact .inl (.inr ⟨oo,Je.mpr ⟨fun z=>(by rw [z,z1] at z2;cases z2),z2⟩⟩)
               . exact .inr z2
             exact (sK.trans (zZ s4)).seq z3
           . refine (k4.zYx (H':=hide H2 [to]) fun b u e nf=>zG.mpr ⟨?_,e⟩).mono s4;intro z;rw [List.mem_singleton.mp z,hto2] at e;exact nf _ _ (Option.some.inj e).symm
         . rw [zB];simp
         . rw [<- hdue'];simp
end
end PT
open PySem PySem.W PyProof.Rows
structure PySem.W.Fast:Prop where (tw4907147708025704427 tw10303933955800945527 tw9073040890755757140 tw12804740329283479317 tw7196016154529051187 tw15382063148650904329 tw14124608038362609954 tw12052616751729718145 tw16275612727012485814 tw2046582590225255715 tw14682225323270403805 tw3409633058510408691 tw2144535190751792588 tw18212282199302053392 tw7469321898436612015 tw12028739049643008580 tw1328147564483375041 tw747204795487867458 tw2845772416225317950 tw16419968549676601782 tw17524742930531328843 tw13216820728640430811 tw523477197355783458 tw562736833606989231 tw9485065021102229362 tw2521915519400609276 tw14767030090541208131 tw14828626827619614434 tw15548539701858602432 tw3038715312751704123 tw552846607263527962 tw15154814473898049796 tw15282194413213767008 tw17965172459521417476 tw8899173741905542775 tw8148849103805006291 tw4240409282175063691 tw8856489479692930773 tw3363732766902518790 tw14412901710171518481 tw1165610339110117631 tw13585742064694889853 tw2277641230845542493 tw8081692942383809203 tw18213967477912725160 tw12617979257476038882 tw9949860553386006241 tw1542495358218065026 tw12757828349776002073 tw11657217975212400321 tw596077378021331819 tw17779449214618772254 tw2057667851429450596 tw2420037243443014557 tw4216551123000760341 tw13122759346793331197 tw7285336601445618912 tw6458776309120472777 tw14766648218645203660 tw6596851312891146631 tw6467268284450388040 tw5103317559698129281 tw12662685230714351694 tw14169370102206242324 tw12247404055585218143 tw6604633176974391938 tw8824534575553552441 tw11976185170366961951 tw15917212851491874001 tw4927845143085134809 tw13748308851739389353 tw10909508698042469558 tw7199767283037542743 tw5526354098138646656 tw5803904122512775454 tw9509081509041299382 tw16841737671750437692 tw2856185413766229319 tw1982319776403760579 tw11659624974978516746 tw4419899843350204977 tw8462523961095137746 tw7848979293004923955 tw16083047594852030059 tw15670314828867603960 tw7239875985480087947 tw1931690650782477494 tw17557318504035272775 tw4737403857938345698 tw6812900727450264543 tw6223513350240176862 tw2869760005951352983 tw3539658029779782529 tw4630196470815450583 tw7638919508386219839 tw14423374030651379525 tw9073458391012495113 tw4101535780760977617 tw14099403401792360510 tw14638668110845450250 tw17629159786760399424 tw14632462684459886431 tw14209900735730560866 tw10537505329091157856 tw14852721540674963855 tw16508787745371238294 tw6999920376516656373 tw4900196611134075525 tw2445615350857250486 tw1851862417039722160 tw8004055987877874565 tw12347357789970363690 tw5441761570191138263 tw11930187719255295068 tw11429155040901257700 tw2925244601538719444 tw14828137026461886375 tw865822838780223111 tw4244535814877637220 tw17522475560460211062 tw12786772972160113523 tw16742809090536294255 tw447672590747695473 tw8137907897840461624 tw7925771515924458768 tw8014945683718516890 tw11649262888680454086 tw15925018034125065999 tw3681637000961654769 tw254780229296803956 tw5424705685222542030 tw8646649516017331003 tw15564720321038080392 tw6130518616367412084 tw4737237858662426173 tw3063010854216613098 tw5162305770379461967 tw2833767277748252751 tw2790878693661001356 tw17953971863103298845 tw4523385360294918442 tw8757932537533445967 tw11296182267309815901 tw7592397485642977456 tw552685184519922809 tw10111858762390808556 tw5088598978932094743 tw4624492149642992052 tw7690049278924404135 tw6454459367094904554 tw1521104460672401269 tw16626984310627346780 tw16526698601582685161 tw8495440823932488886 tw10860782564682931969 tw6558503641664180606 tw16996267122802050516 tw6980327967808588654 tw2374081504259534933 tw4756058407343399114 tw3150435041995520485 tw5439978390193543147 tw3089819393499652405 tw11957962005436176888 tw3810344201605732883 tw10396965155782596 tw2710432031268531048 tw9907621821244455040 tw17663862090799460749 tw17552461133283296859 tw3549979788117003849 tw2195187039608142065 tw12104660825379594350 tw15125552925522664363 tw7578987459964491563 tw3951603822700216345 tw6109337428714139450 tw4992127049986938387 tw18157173009453183965 tw11510707841504588884 tw12038033190368840380 tw8406639200004142830 tw13374569454098313285 tw729690339842633965 tw1959363231729831513 tw4791097547586907634 tw9270958978927498834 tw9406480598377291700 tw13734523905468268965 tw5490364103154002181 tw2703515376300619976 tw2922834388598116996 tw13210862671907736488 tw17202772594502664945 tw2120490079350563680 tw6507824066199982181 tw9523364177381900627 tw2983311013192984286 tw13294715658270101680 tw2476177377707056464 tw462547375378527808 tw3123894244818194001 tw1430086555831276147 tw14952202017253772972 tw12061209833053451337 tw16726630194426051661 tw10880253853176937014 tw388259783943873018 tw8033576308511507519 tw1038719371714876106 tw6819373453842782116 tw13119597871246042888 tw1622900725833590184 tw3395415188342614492 tw5660246791297945605 tw3618694274900397937 tw18373429769806281951 tw14237849095291924599 tw7624945668696199682 tw18040870264869384098 tw1311394696576292699 tw5594632754157428839 tw1360954321673818495 tw950782189993604270 tw17893888387344897790 tw6285336011240288673 tw4354475035524650071 tw7594994006247377445 tw5819941834435921292 tw13064365320847065859 tw18163566843171247022 tw5817770789947380139 tw14330133741379511303 tw5723608395430358151 tw8431216787366771815 tw17541806197107015919 tw6011712727091146484 tw2938304332271879371 tw2681857822930484017 tw8812729199424125539 tw2435655339868166490 tw3953496824666377616 tw719344572175236880 tw6425878614801102182 tw7578240640630930410 tw455083919807241621 tw1831467941408761087 tw10535490947451656456 tw6199818905471762798 tw8464994031554847041 tw14314810947948936326 tw2064135122770271447 tw8066401697475727631 tw10291168323489085511 tw7992305776104550887 tw18276341441312750295 tw15391514676053341783 tw15552528592158663364 tw10201826153024931843 tw14888836999607218381 tw4444266249914576454 tw1742442886154303870 tw1370104605012722313 tw17400882727013554642 tw7202077702242172583 tw2450974828902625251 tw17595113667333401603 tw15463356593146556211 tw15599098153374888927 tw4748586319814759341 tw16786745532387166146 tw15319452835964587632:True)
set_option maxRecDepth 100000 in
set_option maxHeartbeats 0 in
theorem PySem.Challenge.cw_pentrail_s01_answers_holds : PySem.Challenge.rw_pentrail_s01_answers.Holds := by
 w_on;k_headS;(case hw=>exact ⟨[.list [.int 5]],by decide +kernel,by decide +kernel⟩)
 k_fillS
 refine L2.zQK (r:=PySem.Challenge.rw_pentrail_s01_answers) (k:=11) (CX:=L2.CX0) (ps:=["calls"]) (sp:=PT.zKo) (by decide +kernel) rfl rfl ⟨rfl,by decide,by decide⟩ (fun w h Y=>PySem.W.kIn_of Y) ?F ?S (fun _ _ _ _ z=>z)
 case S =>
   intro K H xs a _ _ hask hdw;obtain ⟨ns,u⟩:=a;cases hdw with
   | cons h1 h2 =>
     cases h2;cases h1 with
     | lst hS hA =>have e:=L2.zRl ns _ hA;subst e;exact ⟨_,ns,rfl,hS,hask,fun p H' hp=>.lst (L2.SqL.of hp) (L2.zRk _)⟩
 case F =>
   intro w mg fa h Y KX G hmg;obtain ⟨zr,jc,Zl,Z7,qT,qE,QA⟩:=PT.exA (x := "TextFault") (q := "TextFault.__init__") (st:=PT.J6) KX G;obtain ⟨qJ,⟨zGd,qR⟩,jP,qP,qX,⟨ZD,QM,ZF,zGe⟩,⟨QN,zAG,zAX,zDH⟩⟩ : ∃ C,PT.CN _ mg "Answer" C/\L2.zp _ C "number"/\L2.zp _ C "listed"/\L2.zp _ C "text"/\PT.MI _ C "Answer.__init__" PT.zCk/\PT.MF _ C "flat" "Answer.flat" PT.zCl:=⟨_,PT.cnA KX G,PT.naA KX,PT.naA KX,PT.naA KX,PT.miA KX,PT.mfA KX⟩;obtain ⟨jB,⟨zJN,Qx⟩,Zt,Qy,Zu,⟨ZQ,JM,JW,zJO⟩,⟨qV,jI,jJ,ZJ⟩⟩ : ∃ C,PT.CN _ mg "Outlook" C/\L2.zp _ C "wholes"/\L2.zp _ C "roots"/\L2.zp _ C "square"/\PT.MI _ C "Outlook.__init__" PT.qH/\PT.MF _ C "lies_ahead" "Outlook.lies_ahead" PT.ZH:=⟨_,PT.cnA KX G,PT.naA KX,PT.naA KX,PT.naA KX,PT.miA KX,PT.mfA KX⟩;obtain ⟨Q5,⟨zOX,qK⟩,JA,JY,zt,jQ,zAh,JB,Qz,⟨zCP,zE0,Z9,zOY⟩,⟨Ji,zBT,jV,j5⟩,⟨qi,jZ,jb,Z5⟩,⟨zCQ,zE1,zCX,zE6⟩,⟨QS,zAK,zAY,zDO⟩,⟨zA4,zDD,zBC,zDP⟩⟩ : ∃ C,PT.CN _ mg "Pen" C/\L2.zp _ C "moves"/\L2.zp _ C "turnings"/\L2.zp _ C "place"/\L2.zp _ C "turn"/\L2.zp _ C "kept"/\L2.zp _ C "steps"/\L2.zp _ C "letters"/\PT.MI _ C "Pen.__init__" PT.zGs/\PT.MF _ C "follow" "Pen.follow" PT.zDz/\PT.MF _ C "follow_letter" "Pen.follow_letter" PT.Zy/\PT.MF _ C "move" "Pen.move" PT.zGt/\PT.MF _ C "go_back" "Pen.go_back" PT.zCp/\PT.MF _ C "state" "Pen.state" PT.zFb:=⟨_,PT.cnA KX G,PT.naA KX,PT.naA KX,PT.naA KX,PT.naA KX,PT.naA KX,PT.naA KX,PT.naA KX,PT.miA KX,PT.mfA KX,PT.mfA KX,PT.mfA KX,PT.mfA KX,PT.mfA KX⟩;obtain ⟨zy,⟨zJP,jR⟩,qF,zi,⟨ZY,JU,JX,zJQ⟩,⟨jw,QZ,Qr,zBG⟩,⟨jd,Zm,Zq,zAB⟩⟩ : ∃ C,PT.CN _ mg "Tallies" C/\L2.zp _ C "by_letter"/\L2.zp _ C "by_generation"/\PT.MI _ C "Tallies.__init__" PT.zBw/\PT.MF _ C "tally" "Tallies.tally" PT.zAp/\PT.MF _ C "behind" "Tallies.behind" PT.J7:=⟨_,PT.cnA KX G,PT.naA KX,PT.naA KX,PT.miA KX,PT.mfA KX,PT.mfA KX⟩;obtain ⟨qB,⟨zOZ,zW⟩,zx,qG,jE,qt,⟨Jp,zBa,zBd,zOa⟩,⟨ZZ,JV,qb,jH⟩,⟨jx,Qb,Qt,zBI⟩,⟨je,Zn,Zr,zAC⟩,⟨jf,Zo,jh,Zs⟩,⟨jL,ZE,qc,jO⟩,⟨jg,Zp,zf,zm⟩⟩ : ∃ C,PT.CN _ mg "World" C/\L2.zp _ C "turns"/\L2.zp _ C "first_row"/\L2.zp _ C "rules"/\L2.zp _ C "tallies"/\PT.MI _ C "World.__init__" PT.zD5/\PT.MF _ C "become" "World.become" PT.zBx/\PT.MF _ C "set_row" "World.set_row" PT.zAq/\PT.MF _ C "set_rule" "World.set_rule" PT.J8/\PT.MF _ C "tally_at" "World.tally_at" PT.J9/\PT.MF _ C "length_at" "World.length_at" PT.Q3/\PT.MF _ C "signs_at" "World.signs_at" PT.zAA:=⟨_,PT.cnA KX G,PT.naA KX,PT.naA KX,PT.naA KX,PT.naA KX,PT.miA KX,PT.mfA KX,PT.mfA KX,PT.mfA KX,PT.mfA KX,PT.mfA KX,PT.mfA KX⟩;obtain ⟨za,⟨zMB,zj⟩,qz,qL,⟨Qc,zAR,zAZ,zMC⟩,⟨jy,Qd,Qu,zBJ⟩,⟨Qe,zAS,zh,zq⟩,⟨jC,jn,z0,qA⟩⟩ : ∃ C,PT.CN _ mg "Cursor" C/\L2.zp _ C "numbers"/\L2.zp _ C "place"/\PT.MI _ C "Cursor.__init__" PT.zCv/\PT.MF _ C "at_end" "Cursor.at_end" PT.zAr/\PT.MF _ C "take" "Cursor.take" PT.zCw/\PT.MF _ C "take_text" "Cursor.take_text" PT.QG:=⟨_,PT.cnA KX G,PT.naA KX,PT.naA KX,PT.miA KX,PT.mfA KX,PT.mfA KX,PT.mfA KX⟩;obtain ⟨ZM,JI,zP,zJ⟩ : PT.FF _ mg "number_alone" PT.zBl:=PT.fA KX G;obtain ⟨Q6,zAz,qD,zV⟩ : PT.FF _ mg "with_list" PT.zFX:=PT.fA KX G;obtain ⟨zA0,zC9,zDI,Z2⟩ : PT.FF _ mg "with_text" PT.zFY:=PT.fA KX G;obtain ⟨zA1,zDA,zDJ,Z3⟩ : PT.FF _ mg "places_of" PT.zAm:=PT.fA KX G;obtain ⟨zES,zGN,jM,zl⟩ : PT.FF _ mg "refusal" PT.zIW:=PT.fA KX G;obtain ⟨zET,zGO,Jr,qk⟩ : PT.FF _ mg "is_step" PT.zIX:=PT.fA KX G;obtain ⟨zA2,zDB,Q7,qm⟩ : PT.FF _ mg "is_letter" PT.zFZ:=PT.fA KX G;obtain ⟨zEU,zGP,zGY,zA8⟩ : PT.FF _ mg "is_sign" PT.zIY:=PT.fA KX G;obtain ⟨Jf,zBQ,zEb,Js⟩ : PT.FF _ mg "may_follow" PT.zDw:=PT.fA KX G;obtain ⟨QO,zAH,zDK,Qj⟩ : PT.FF _ mg "kept_behind" PT.zCm:=PT.fA KX G;obtain ⟨zEV,zGQ,zGZ,zA9⟩ : PT.FF _ mg "row_end" PT.zIZ:=PT.fA KX G;obtain ⟨zA3,zDC,zDL,Z4⟩ : PT.FF _ mg "is_paired" PT.zFa:=PT.fA KX G;obtain ⟨zGR,zHu,zHv,zDM⟩ : PT.FF _ mg "is_row" PT.zLV:=PT.fA KX G;obtain ⟨ju,QP,zBA,jz⟩ : PT.FF _ mg "length_answer" PT.zAn:=PT.fA KX G;obtain ⟨ZN,JJ,zB1,Za⟩ : PT.FF _ mg "count_answer" PT.zBm:=PT.fA KX G;obtain ⟨ZO,JK,zB2,Zb⟩ : PT.FF _ mg "slice_answer" PT.zBn:=PT.fA KX G;obtain ⟨Jg,zBR,zBc,j0⟩ : PT.FF _ mg "is_pattern" PT.zDx:=PT.fA KX G;obtain ⟨QQ,zAI,zDN,Qk⟩ : PT.FF _ mg "find_answer" PT.zCn:=PT.fA KX G;obtain ⟨ZP,JL,zB3,Zc⟩ : PT.FF _ mg "often_answer" PT.zBo:=PT.fA KX G;obtain ⟨zNW,zPz,zGa,Jt⟩ : PT.FF _ mg "plus" PT.zSo:=PT.fA KX G;obtain ⟨zCO,zEz,zAg,jN⟩ : PT.FF _ mg "so_often" PT.zGr:=PT.fA KX G;obtain ⟨zJG,zL4,zL8,zFj⟩ : PT.FF _ mg "minus" PT.zN8:=PT.fA KX G;obtain ⟨zEW,zGS,zGb,zBB⟩ : PT.FF _ mg "times_z" PT.zIa:=PT.fA KX G;obtain ⟨QR,zAJ,Ql,qW⟩ : PT.FF _ mg "powers_of_z" PT.zCo:=PT.fA KX G;obtain ⟨zJH,zL5,zL9,zFk⟩ : PT.FF _ mg "times" PT.zN9:=PT.fA KX G;obtain ⟨zJI,zL6,zMA,zFl⟩ : PT.FF _ mg "aside" PT.zOA:=PT.fA KX G;obtain ⟨zEX,zGT,zJK,zEc⟩ : PT.FF _ mg "crossed" PT.zIb:=PT.fA KX G;obtain ⟨zEY,zGU,zCW,j4⟩ : PT.FF _ mg "weighed" PT.zIc:=PT.fA KX G;obtain ⟨Jh,zBS,zEd,Ju⟩ : PT.FF _ mg "is_above_0" PT.zDy:=PT.fA KX G;obtain ⟨ZR,JN,zB4,Zd⟩ : PT.FF _ mg "state_behind" PT.zBp:=PT.fA KX G;obtain ⟨QT,zAL,zDQ,Qm⟩ : PT.FF _ mg "step_places" PT.QF:=PT.fA KX G;obtain ⟨zCR,zE2,zHA,zCY⟩ : PT.FF _ mg "farthest" PT.zGu:=PT.fA KX G;obtain ⟨Jj,zBU,zEe,Jv⟩ : PT.FF _ mg "gone_round" PT.zD0:=PT.fA KX G;obtain ⟨jv,QU,zBD,j6⟩ : PT.FF _ mg "first_meeting" PT.zAo:=PT.fA KX G;obtain ⟨Jk,zBV,zEf,Jw⟩ : PT.FF _ mg "steps_from" PT.zD1:=PT.fA KX G;obtain ⟨ZS,JO,zB5,Ze⟩ : PT.FF _ mg "where_answer" PT.zBq:=PT.fA KX G;obtain ⟨ZT,JP,zB6,Zf⟩ : PT.FF _ mg "drawn_answer" PT.zBr:=PT.fA KX G;obtain ⟨Jl,zBW,zEg,Jx⟩ : PT.FF _ mg "far_answer" PT.zD2:=PT.fA KX G;obtain ⟨ZU,JQ,zB7,Zg⟩ : PT.FF _ mg "round_answer" PT.zBs:=PT.fA KX G;obtain ⟨ZV,JR,zB8,Zh⟩ : PT.FF _ mg "meets_answer" PT.zBt:=PT.fA KX G;obtain ⟨QV,zAM,zDR,Qn⟩ : PT.FF _ mg "walk_answer" PT.zCq:=PT.fA KX G;obtain ⟨Jm,zBX,Jy,jD⟩ : PT.FF _ mg "turns_line" PT.Jc:=PT.fA KX G;obtain ⟨zEZ,zGV,zJL,zEh⟩ : PT.FF _ mg "text_of" PT.zId:=PT.fA KX G;obtain ⟨qj,ja,Z6,qr⟩ : PT.FF _ mg "same_at_beginning" PT.Zz:=PT.fA KX G;obtain ⟨Jn,zBY,zEi,Jz⟩ : PT.FF _ mg "read_turns" PT.zD3:=PT.fA KX G;obtain ⟨zCS,zE3,zE7,Q8⟩ : PT.FF _ mg "read_row" PT.zGv:=PT.fA KX G;obtain ⟨QW,zAN,zDS,Qo⟩ : PT.FF _ mg "read_letter" PT.zCr:=PT.fA KX G;obtain ⟨zA5,zDE,zFm,zBE⟩ : PT.FF _ mg "read_text" PT.zFc:=PT.fA KX G;obtain ⟨ZW,JS,zB9,Zi⟩ : PT.FF _ mg "start_answer" PT.zBu:=PT.fA KX G;obtain ⟨Jo,zBZ,zEj,J3⟩ : PT.FF _ mg "row_answer" PT.zD4:=PT.fA KX G;obtain ⟨QX,zAO,zDT,Qp⟩ : PT.FF _ mg "rule_answer" PT.zCs:=PT.fA KX G;obtain ⟨QY,zAP,zDU,Qq⟩ : PT.FF _ mg "read_answer" PT.zCt:=PT.fA KX G;obtain ⟨ZX,JT,zCA,Zj⟩ : PT.FF _ mg "write_answer" PT.zBv:=PT.fA KX G;obtain ⟨zCT,zE4,zE8,Q9⟩ : PT.FF _ mg "tally_of" PT.zGw:=PT.fA KX G;obtain ⟨zA6,zDF,zFn,zBF⟩ : PT.FF _ mg "add_times" PT.zFd:=PT.fA KX G;obtain ⟨zA7,zDG,zFo,zBH⟩ : PT.FF _ mg "rewritten" PT.zFe:=PT.fA KX G;obtain ⟨Qa,zAQ,zDV,Qs⟩ : PT.FF _ mg "written_out" PT.zCu:=PT.fA KX G;obtain ⟨Qg,zAT,zDW,Qv⟩ : PT.FF _ mg "making_call" PT.zCx:=PT.fA KX G;obtain ⟨Qh,zAU,zDX,Qw⟩ : PT.FF _ mg "asking_call" PT.zCy:=PT.fA KX G;obtain ⟨Jq,zBb,zEk,J4⟩ : PT.FF _ mg "going_call" PT.zD6:=PT.fA KX G;obtain ⟨zCU,zE5,zHB,zCZ⟩ : PT.FF _ mg "one_call" PT.zGx:=PT.fA KX G;obtain ⟨zCV,zEa,zJM,zGc⟩ : PT.FF _ mg "answers" PT.zF9:=PT.fA KX G;have JC:=PT.qg KX G (x := "LAST_GENERATION") (i:=64) (by kernel_rfl);have jS:=PT.qg KX G (x := "FEWEST_THAT_DO_NOT_FIT") (i:=18446744073709551616) (by kernel_rfl);obtain ⟨Qi,zAa,Q0⟩:=PT.zPe KX G (x := "TURN_COUNTS") (l:=[3,4,5,6,8,10,12]) (by kernel_rfl);have zDY:=PT.qg KX G (x := "LONGEST_ROW") (i:=255) (by kernel_rfl);have zYy:=PT.qg KX G (x := "GO") (i:=62) (by kernel_rfl);have zFp:=PT.qg KX G (x := "TURN_MORE") (i:=43) (by kernel_rfl);have zFq:=PT.qg KX G (x := "TURN_LESS") (i:=45) (by kernel_rfl);have zBe:=PT.qg KX G (x := "HALF_ROUND") (i:=124) (by kernel_rfl);have zKp:=PT.qg KX G (x := "KEEP") (i:=91) (by kernel_rfl);have zCa:=PT.qg KX G (x := "GO_BACK") (i:=93) (by kernel_rfl);obtain ⟨qu,jl,jm⟩:=PT.zPe KX G (x := "SIGNS_BESIDE_LETTERS") (l:=[62,43,45,124,91,93]) (by kernel_rfl);have zBK:=PT.qg KX G (x := "LONGEST_SLICE") (i:=10000) (by kernel_rfl);have JD:=PT.qg KX G (x := "LONGEST_PATTERN") (i:=64) (by kernel_rfl);obtain ⟨zAV,zBf,zAb⟩:=PT.zPe KX G (x := "ORIGIN") (l:=[0,0,0,0]) (by kernel_rfl);obtain ⟨zTJ,zWc,zWd⟩:=PT.zPe KX G (x := "ONE") (l:=[1,0,0,0]) (by kernel_rfl);obtain ⟨zL7,zOb,zOc⟩:=PT.zVK KX G (x := "SIZES") (l:=[(3,2),(4,2),(5,4),(6,2),(8,4),(10,4),(12,4)]) (by kernel_rfl);obtain ⟨zAW,zDZ,zAc⟩:=PT.zSs KX G (x := "NEXT_POWERS") (l:=[(3,[-1,-1,0,0]),(4,[-1,0,0,0]),(5,[-1,-1,-1,-1]),(6,[-1,1,0,0]),(8,[-1,0,0,0]),(10,[-1,1,-1,1]),(12,[-1,0,1,0])]) (by kernel_rfl);obtain ⟨zGW,zMD,zME⟩:=PT.zSs KX G (x := "WHOLES") (l:=[(3,[2,-1,0,0]),(4,[1,0,0,0]),(5,[4,-1,-1,-1]),(6,[2,1,0,0]),(8,[2,0,0,0]),(10,[4,1,-1,1]),(12,[2,0,1,0])]) (by kernel_rfl);obtain ⟨zJJ,zOd,zOe⟩:=PT.zSs KX G (x := "ROOTS") (l:=[(3,[0,0,0,0]),(4,[0,0,0,0]),(5,[0,1,-1,-1]),(6,[0,0,0,0]),(8,[0,1,0,-1]),(10,[0,1,1,-1]),(12,[0,1,0,0])]) (by kernel_rfl);obtain ⟨zGX,zJR,zJS⟩:=PT.zVK KX G (x := "SQUARES") (l:=[(3,1),(4,1),(5,5),(6,1),(8,2),(10,5),(12,3)]) (by kernel_rfl);have zBg:=PT.qg KX G (x := "MOST_STEPS") (i:=1000) (by kernel_rfl);have JE:=PT.qg KX G (x := "LINE_FEED") (i:=10) (by kernel_rfl);have zHw:=PT.qg KX G (x := "EQUALS") (i:=61) (by kernel_rfl);have zCB:=PT.qg KX G (x := "LONGEST_TEXT") (i:=65536) (by kernel_rfl);have zMF:=PT.qg KX G (x := "START") (i:=1) (by kernel_rfl);have zWe:=PT.qg KX G (x := "ROW") (i:=2) (by kernel_rfl);have zTK:=PT.qg KX G (x := "RULE") (i:=3) (by kernel_rfl);have zTL:=PT.qg KX G (x := "READ") (i:=4) (by kernel_rfl);have zOf:=PT.qg KX G (x := "WRITE") (i:=5) (by kernel_rfl);have zHx:=PT.qg KX G (x := "LENGTH") (i:=6) (by kernel_rfl);have zOg:=PT.qg KX G (x := "COUNT") (i:=7) (by kernel_rfl);have zOh:=PT.qg KX G (x := "SLICE") (i:=8) (by kernel_rfl);have zTM:=PT.qg KX G (x := "FIND") (i:=9) (by kernel_rfl);have zOi:=PT.qg KX G (x := "OFTEN") (i:=10) (by kernel_rfl);have zMG:=PT.qg KX G (x := "WHERE") (i:=11) (by kernel_rfl);have zOj:=PT.qg KX G (x := "DRAWN") (i:=12) (by kernel_rfl);have zWf:=PT.qg KX G (x := "FAR") (i:=13) (by kernel_rfl);have zOk:=PT.qg KX G (x := "ROUND") (i:=14) (by kernel_rfl);have zOl:=PT.qg KX G (x := "MEETS") (i:=15) (by kernel_rfl);have zTN:=PT.qg KX G (x := "WALK") (i:=16) (by kernel_rfl);have QB:=PT.none_of KX G (x := "len") (by kernel_rfl);have zJT:=PT.none_of KX G (x := "range") (by kernel_rfl);have zMH:=PT.none_of KX G (x := "sorted") (by kernel_rfl);have zWg:=PT.none_of KX G (x := "sum") (by kernel_rfl);have zWh:=PT.none_of KX G (x := "max") (by kernel_rfl);have zWi:=PT.none_of KX G (x := "ord") (by kernel_rfl);have zWj:=PT.none_of KX G (x := "str") (by kernel_rfl);have zTO:=PT.none_of KX G (x := "dict") (by kernel_rfl);have zNX:=PT.none_of KX G (x := "list") (by kernel_rfl);have zUf:=PT.none_of KX G (x := "abs") (by kernel_rfl);have j7:=PT.none_of KX G (x := "enumerate") (by kernel_rfl);obtain ⟨zER,zHU⟩:=(by refine' PT.zWD KX G ?ya;(case ya=>k_is):∃ C,mg "NoSuchCall" = some (.ref C));have T:PT.Txt _ mg { qJ,jB,Q5,zr,zy,qB,za,zER,ZD,QM,QN,zAG,ZM,JI,Q6,zAz,zA0,zC9,zA1,zDA,zES,zGN,zET,zGO,zA2,zDB,zEU,zGP,Jf,zBQ,QO,zAH,zEV,zGQ,zA3,zDC,zGR,zHu,ju,QP,ZN,JJ,ZO,JK,Jg,zBR,QQ,zAI,ZP,JL,zNW,zPz,zCO,zEz,zJG,zL4,zEW,zGS,QR,zAJ,zJH,zL5,zJI,zL6,zEX,zGT,zEY,zGU,Jh,zBS,ZQ,JM,qV,jI,zCP,zE0,Ji,zBT,qi,jZ,zCQ,zE1,QS,zAK,zA4,zDD,ZR,JN,QT,zAL,zCR,zE2,Jj,zBU,jv,QU,Jk,zBV,ZS,JO,ZT,JP,Jl,zBW,ZU,JQ,ZV,JR,QV,zAM,jc,Zl,Jm,zBX,zEZ,zGV,qj,ja,Jn,zBY,zCS,zE3,QW,zAN,zA5,zDE,ZW,JS,Jo,zBZ,QX,zAO,QY,zAP,ZX,JT,zCT,zE4,zA6,zDF,ZY,JU,jw,QZ,jd,Zm,zA7,zDG,Qa,zAQ,Jp,zBa,ZZ,JV,jx,Qb,je,Zn,jf,Zo,jL,ZE,jg,Zp,Qc,zAR,jy,Qd,Qe,zAS,jC,jn,Qg,zAT,Qh,zAU,Jq,zBb,zCU,zE5,zCV,zEa,Qi,qu,zAV,zTJ,zL7,zAW,zGW,zJJ,zGX }:={ ZF,zAX,zDH,zJ,zP,zV,qD,Z2,zDI,Z3,zDJ,zl,jM,qk,Jr,qm,Q7,zA8,zGY,Js,zEb,Qj,zDK,zA9,zGZ,Z4,zDL,zDM,zHv,jz,zBA,Za,zB1,Zb,zB2,j0,zBc,Qk,zDN,Zc,zB3,Jt,zGa,jN,zAg,zFj,zL8,zBB,zGb,qW,Ql,zFk,zL9,zFl,zMA,zEc,zJK,j4,zCW,Ju,zEd,JW,jJ,ZJ,Z9,jV,j5,jb,Z5,zCX,zE6,zAY,zDO,zBC,zDP,Zd,zB4,Qm,zDQ,zCY,zHA,Jv,zEe,j6,zBD,Jw,zEf,Ze,zB5,Zf,zB6,Jx,zEg,Zg,zB7,Zh,zB8,Qn,zDR,qT,jD,Jy,zEh,zJL,qr,Z6,Jz,zEi,Q8,zE7,Qo,zDS,zBE,zFm,Zi,zB9,J3,zEj,Qp,zDT,Qq,zDU,Zj,zCA,Q9,zE8,zBF,zFn,JX,Qr,zBG,Zq,zAB,zBH,zFo,Qs,zDV,zBd,qb,jH,Qt,zBI,Zr,zAC,jh,Zs,qc,jO,zf,zm,zAZ,Qu,zBJ,zh,zq,z0,qA,Qv,zDW,Qw,zDX,J4,zEk,zCZ,zHB,zGc,zJM,zGd,qR,jP,qP,qX,zGe,zJN,Qx,Zt,Qy,Zu,zJO,zOX,qK,JA,JY,zt,jQ,zAh,JB,Qz,zOY,Z7,qE,QA,zJP,jR,qF,zi,zJQ,zOZ,zW,zx,qG,jE,qt,zOa,zHU,zMB,zj,qz,qL,zMC,JC,jS,zAa,Q0,zDY,zYy,zFp,zFq,zBe,zKp,zCa,jl,jm,zBK,JD,zBf,zAb,zWc,zWd,zOb,zOc,zDZ,zAc,zMD,zME,zOd,zOe,zJR,zJS,zBg,JE,zHw,zCB,zMF,zWe,zTK,zTL,zOf,zHx,zOg,zOh,zTM,zOi,zMG,zOj,zWf,zOk,zOl,zTN,QB,zJT,zMH,zWg,zWh,zWi,zWj,zTO,zNX,zUf,j7 };obtain rfl:zCV=fa:=by have e:=zJM.symm.trans hmg;injection e with e;injection e
   exact ⟨zEa,PT.zQm zGc,fun base KB GB=>PT.zQ6 T⟩
