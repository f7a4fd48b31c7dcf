import Derived.Test.YtckhafpejefbbaaGreatDoorB16

set_option maxRecDepth 100000
set_option maxHeartbeats 4000000
namespace Go.Proofs.YtckhafpejefbbaaGreatDoor
section
open Go.Proofs.Tryz
open Go Go.RowKit
section
variable {P:Program} (w:World)
variable{t te ta tb:TypeId}{j:TypeInfo}{a b:Addr}{ca cb:Array Value}{sz:Nat}
theorem Xp(d:Nat)(e:P.underlying t=some (.pointer te))(c:P.info? te=some j)(a:Addr):
  (Op.equalIn (d+1) t (.pointer (some a)) (.pointer (some a))).run P w=.ok true w:=by
 simp[Op.equalIn,run_underlying e,sizeOf,typeInfo,c,run_sameAddr_same]
theorem V5(d:Nat)(h:P.underlying t=some (.pointer te))(f:P.info? te=some j)(i:j.size≠0)(g:a≠b)
  (c:zH w a.block ca ta) (e:zH w b.block cb tb) :
  (Op.equalIn (d+1) t (.pointer (some a)) (.pointer (some b))).run P w=.ok false w:=by
 simp[Op.equalIn,run_underlying h,sizeOf,typeInfo,f,i,run_sameAddr_other w g c e]
theorem Xq(d:Nat)(c:P.underlying t=some (.pointer te))(b:Addr):
  (Op.equalIn (d+1) t (.pointer none) (.pointer (some b))).run P w=.ok false w:=by
 simp[Op.equalIn,run_underlying c]
theorem zeh(d:P.underlying t=some (.pointer te))(e:(P.info? te).map (·.size)=some sz)(a:Addr):
  Sem.run P (binOp .eql t (.pointer (some a)) (.pointer (some a))) w=.ok (.bool true) w:=by
 obtain⟨j,c,_⟩:=Option.map_eq_some_iff.1 e;simp only[binOp];simp[Op.equal,Op.maxDepth,Xp w 9999 d c a]
theorem zcc(g:P.underlying t=some (.pointer te))(i:(P.info? te).map (·.size)=some sz)(h:sz≠0)(f:a≠b)
  (c:zH w a.block ca ta) (d:zH w b.block cb tb) :
  Sem.run P (binOp .eql t (.pointer (some a)) (.pointer (some b))) w=.ok (.bool false) w:=by
 obtain⟨j,e,k⟩:=Option.map_eq_some_iff.1 i;simp only[binOp];simp[Op.equal,Op.maxDepth,V5 w 9999 g e (by rw[k];exact h) f c d]
theorem zei(c:P.underlying t=some (.pointer te))(b:Addr):
  Sem.run P (binOp .eql t (.pointer none) (.pointer (some b))) w=.ok (.bool false) w:=by
 simp only[binOp];simp[Op.equal,Op.maxDepth,Xq w 9999 c b]
theorem zan:Tryz.prog.underlying 79=some (.pointer 89):=kR
theorem zgf:(Tryz.prog.info? 89).map (·.size)=some 2:=kR
end
end
section
open Tw Go.Proofs.Tryz
open Go.RowKit Go.Shelf
section
variable{w:World}{A:Addr}{tv:Value}
attribute [local go_sem] Oper.semAt_some
def Sz(w:World)(a:Addr):Prop:=∃c t,w.heap[a.block]?=some (.cells c t (0,0))/\Su.contains t=true
theorem Sz.kp{w':World}{a:Addr}(h:Sz w a)(e:Kp w w'):Sz w' a:=by
 have⟨c,t,d,b⟩:=h;exact⟨c,t,e _ _ _ _ d b,b⟩
def BEn.blk(w:World)(e:Tw.BEn):Prop:=∀x a,e.look x=some a->Sz w a
theorem BEn.blk.cons{w:World}{e:Tw.BEn}(h:BEn.blk w e)(n:zU){a:Addr}(d:Sz w a):BEn.blk w (.cons n a e):=λx c b=>by
 simp[Tw.BEn.look]at b;split at b
 ·cases b;exact d
 ·exact h x c b
theorem NL.blk{w:World}{hi:Nat}:∀ {t:Tw.T} {v:Value} {e:Tw.BEn} {L:List NB},NL w hi t v e L->BEn.blk w e->∀x∈L,∀a,x.k=some a->Sz w a
 |.name ..,_,e,_,⟨b,_,rfl⟩,he=>by
  intro x g a i;simp only[xB]at g;subst g;exact he _ _ i
 |.int ..,_,_,_,⟨_,rfl⟩,_=>sM
 |.Ak ..,_,_,_,⟨_,rfl⟩,_=>sM
 |.side ..,_,_,_,⟨_,rfl⟩,_=>sM
 |.bracket ..,_,_,_,⟨_,_,r1⟩,he=>NL.blk r1 he
 |.pair ..,_,_,_,⟨_,_,_,_,_,r1,r2,rfl⟩,he=>λy c=>(zmA.1 c).elim (NL.blk r1 he y) (NL.blk r2 he y)
 |.call ..,_,_,_,⟨_,_,_,_,_,r1,r2,rfl⟩,he=>λy c=>(zmA.1 c).elim (NL.blk r1 he y) (NL.blk r2 he y)
 |.binary ..,_,_,_,⟨_,_,_,_,_,r1,r2,rfl⟩,he=>λy c=>(zmA.1 c).elim (NL.blk r1 he y) (NL.blk r2 he y)
 |.cond ..,_,_,_,⟨_,_,_,_,_,_,_,r1,r2,r3,rfl⟩,he=>λy c=>(zmA.1 c).elim (λh=>(zmA.1 h).elim (NL.blk r1 he y) (NL.blk r2 he y)) (NL.blk r3 he y)
 |.fn _ _ bn _ _,_,_,_,⟨k,v1,⟨_,_,hb⟩,r1⟩,he=>NL.blk r1 (he.cons bn ⟨_,_,hb,dZ⟩)
 |.Am _ _ rc bn _ d b,_,e,_,⟨k,v1,v2,L1,L2,⟨_,_,hb⟩,r1,r2,rfl⟩,he=>λy c=>by
  have f:=he.cons bn (a:=(aD k 3)) ⟨_,_,hb,dZ⟩;refine(zmA.1 c).elim (NL.blk r1 ?_ y) (NL.blk r2 f y);cases rc
  ·exact he
  ·exact f
def Im(A:Addr)(L:List NB):List NB:=L.filter λx=>decide (x.k=some A)
theorem Dc(A:Addr)(L M:List NB):Im A (L++M)=Im A L++Im A M:=by simp[Im]
theorem zej{L M:List NB}(h:L <+:M):Im A L <+:Im A M:=by
 obtain⟨r,rfl⟩:=h;exact⟨Im A r,(Dc A L r).symm⟩
theorem zp3(w:World)(a:∃T n,tv=.iface T (pT n))(A:Addr):
  Calls prog 36 #[tv,.pointer (some A)] w λe w'=>e=.returned (.func (.func 59) #[] #[pT w.heap.size,.pointer (some ⟨w.heap.size+1,0,none⟩)])/\w'=(w.alloc (.cells #[tv] 68)).alloc (.cells #[.pointer (some A)] 79):=by
 obtain⟨b,c,rfl⟩:=a;go_in;go_wp21;go_ret;refine⟨?_,rfl⟩;simp
abbrev UIn(A:Addr)(L0:List NB):={x:NB // x∈Im A L0}
abbrev zwq(A:Addr)(L0:List NB)(x:UIn A L0):Array Value:=#[.pointer (some ⟨x.1.nb,0,none⟩)]
def filU(A:Addr)(L0:List NB):List (zko L0)->List (UIn A L0)
 |[]=>[]
 |x::l=>if h:x.1.k=some A then⟨x.1,by simp[Im,x.2,h]⟩::filU A L0 l else filU A L0 l
theorem Sj(A:Addr)(L0:List NB):∀(a b:List (zko L0)),filU A L0 (a++b)=filU A L0 a++filU A L0 b
 |[],b=>rfl
 |x::a,b=>by
  simp[List.cons_append,filU,Sj A L0 a b];split<;>simp
theorem zao(A:Addr)(L0:List NB):∀(a:List (zko L0)),(filU A L0 a).map (·.1)=Im A (a.map (·.1))
 |[]=>rfl
 |x::a=>by
  simp only[filU,List.map_cons,Im,List.filter_cons]
  have:=zao A L0 a;unfold Im at this;split
  ·rename_i h;show x.1::(filU A L0 a).map (·.1)=_;rw[this,mA (by simpa using h)]
  ·rename_i h;rw[this,jA (by simpa using h)]
theorem zgg(A:Addr)(L0:List NB):∀(a:List (zko L0)),(filU A L0 a).length<=a.length
 |[]=>znL _
 |x::a=>by
  have:=zgg A L0 a;simp only[filU];split<;>simp<;>omega
theorem zuw{hi R Bb:Nat}{t:Tw.T}{L0:List NB}(hR:zH w R #[tv] 68)(hA:zH w Bb #[.pointer (some A)] 79)(hn:NL w hi t tv .nil L0)(hAb:Sz w A):
  zol prog 59 #[pT R,pT Bb] (zwq A L0) Kp (λys=>ys.map (·.1)=Im A L0) (λpre=>pre.map (·.1) <+:Im A L0) L0.length w:=by
 intro l J Jx W hW hJ hJx hY h0;have KW:Kp w W:=λk c t m x _=>(hW.block k (zgE.1 x).1).trans x;have hR':=KW _ _ _ _ hR dZ;have hA':=KW _ _ _ _ hA dZ;have hn':=hn.kp KW;have hAb':=hAb.kp KW;have hblk:=hn'.blk (λx a h=>by cases h);obtain⟨T0,n0,rfl⟩:=hn.iface;refine(callsIn_wide (n:=3)).1 ?_;refine callsIn_of_wp_marks func59 rfl trivial ?_;simp only[ntmps59,List.size_toArray,zB,zD,Nat.reduceAdd,Nat.reduceSub,Array.replicate_succ,Array.replicate_zero,List.push_toArray,List.append_toArray,rD,pD];obtain⟨W1,hW1⟩:∃W1,W.alloc (.cells #[Ht l] 135)=W1:=⟨_,rfl⟩;have G1:zG W W1:=by rw[<-hW1];exact zwA _ _ none
 have hY1:W1.heap[W.heap.size]?=some (.cells #[Ht l] 135 (0,0)):=by rw[<-hW1];exact Ac W _
 have K1:=Kp.Ae G1;have hR1:=K1 _ _ _ _ hR' dZ;have hA1:=K1 _ _ _ _ hA' dZ;have hn1:=hn'.kp K1;have K01:=K1;have hJ1:=hJ _ _ _ none h0 G1 (λr e=>by cases e);have c0:W1.cell? (aD R 0)=some (.iface T0 (pT n0)):=zcR hR1;have z1:W1.heap.size=W.heap.size+1:=by rw[<-hW1];simp
 gi_wp2_with fail;refine⟨trivial,?_⟩;refine(callsIn_wide.2 (zcv W1 ⟨T0,n0,rfl⟩)).mono ?_;rintro e1 w3 ⟨rfl,rfl⟩;obtain⟨W2,hW2⟩:∃W2,W1.alloc (.cells #[.iface T0 (pT n0)] 68)=W2:=⟨_,rfl⟩;have G2:zG W1 W2:=by rw[<-hW2];exact zwA _ _ none
 have hne:W2.heap[W1.heap.size]?=some (.cells #[.iface T0 (pT n0)] 68 (0,0)):=by rw[<-hW2];exact Ac W1 _
 have K2:=Kp.Ae G2;have hY2:=K2 _ _ _ _ hY1 dZ;have hA2:=K2 _ _ _ _ hA1 dZ;have hn2:=hn1.kp K2;have K02:=K01.trans K2;have hJ2:=hJ _ _ _ none hJ1 G2 (λr e=>by cases e);have z2:W2.heap.size=W.heap.size+2:=by rw[<-hW2];simp;omega
 rw[hW2];gi_wp2_with fail;rw[z1]at hne;refine zp2 (p:=8) (q:=9) (d1:=4) (d2:=5) rfl (enters_of func83 kR rfl) (zk2 (n:=0) (Ys hne hn2)) (λh k=>h.trans k) zpk (Below.refl _ _)
  (λpre X=>(J (filU A L0 pre) X/\Kp W X)/\zH X W.heap.size #[Ht l] 135/\zH X Bb #[.pointer (some A)] 79)
  (λc pre X=>c=.ret/\Jx (filU A L0 pre) X) ?own ?ownx ⟨⟨hJ2,K02⟩,hY2,hA2⟩ ?assign ?body ?done ?stop
 case own=>
  rintro s X Y row ⟨⟨h1,h0⟩,h2,h3⟩ hg hr;exact⟨⟨hJ _ X Y row h1 hg (λr e=>⟨by have:=(hr r e).1;omega,(hr r e).2⟩),λk c t m hk ht=>Iw (β:=Unit) _ _ _ _ _ () X Y row (h0 k c t m hk ht) hg hr⟩,Iw (β:=Unit) _ _ _ _ _ () X Y row h2 hg hr,Iw (β:=Unit) _ _ _ _ _ () X Y row h3 hg hr⟩
 case ownx=>
  rintro c s X Y row ⟨h1,h2⟩ hg hr;exact⟨h1,hJx _ X Y row h2 hg (λr e=>⟨by have:=(hr r e).1;omega,(hr r e).2⟩)⟩
 case assign=>
  intro l x X K hK;simp only[zsA,zsZ,zsS]at hK ⊢
  gi_wp2;exact hK
 case body=>
  rintro lr pre ⟨x,hx⟩ X hlr hrec ⟨⟨hj,hkx⟩,hyc,hac⟩ hlt;have⟨cA,tA,hA3,_⟩:=hAb'.kp hkx;have c3:X.cell? (aD W.heap.size 0)=some (Ht l):=zcR hyc;have c2:X.cell? (aD Bb 0)=some (.pointer (some A)):=zcR hac;by_cases hk:x.k=some A
  ·have⟨fn,tmps,asg,bd,hy,hR⟩:=hY (filU A L0 pre) ⟨x,by simp[Im,hx,hk]⟩ X hj (Nat.lt_of_le_of_lt (zgg A L0 pre) hlt) trivial;have HC:=And.intro hyc hac;have hq:=zeh X zan zgf A;have fe:filU A L0 (pre++[⟨x,hx⟩])=filU A L0 pre++[⟨x,by simp[Im,hx,hk]⟩]:=(by rw[Sj];simp[filU,hk]);simp only[zsA,zsZ,zsS,hk];gi_wp2_with fail;refine⟨rfl,?_⟩;have HR':=hR;refine HR'.mono ?_;rintro e2 X2 ⟨kf,⟨rfl,hj2,hk2⟩|⟨rfl,hx2⟩⟩
   ·have hyc2:=hk2 _ _ _ _ HC.1 dZ;have hac2:=hk2 _ _ _ _ HC.2 dZ
    gi_wp2;exact⟨Ey oM kf,hk2,⟨by rw[fe];exact hj2,hkx.trans hk2⟩,hyc2,hac2⟩
   ·gi_wp2;exact⟨Ey oM kf,rfl,by rw[fe];exact hx2⟩
  ·have fe:filU A L0 (pre++[⟨x,hx⟩])=filU A L0 pre:=(by rw[Sj];simp[filU,hk]);cases hxk:x.k with
   |none=>
    have hq:=zei X zan A;simp only[zsA,zsZ,zsS]
    gi_wp2;refine⟨λ_ h=>(by cases h),?_⟩
    gi_wp2;exact⟨KeepsFrom.refl _ _,Kp.refl _,⟨by rw[fe];exact hj,hkx⟩,hyc,hac⟩
   |some a'=>
    have⟨cB,tB,hB3,_⟩:=(hblk x hx a' hxk).kp hkx;have hq:=zcc X zan zgf dZ (λe=>hk (by rw[hxk,e])) hB3 hA3;simp only[zsA,zsZ,zsS]
    gi_wp2;refine⟨λ_ h=>(by cases h),?_⟩
    gi_wp2;exact⟨KeepsFrom.refl _ _,Kp.refl _,⟨by rw[fe];exact hj,hkx⟩,hyc,hac⟩
 case done=>
  rintro D xs X hD hxs ⟨⟨hj,_⟩,_,_⟩ hK;gi_wp2_with fail;refine⟨sM,.inl ⟨_,_,rfl,run_takeDeferred hK,?_⟩⟩;exact⟨.tuple #[],by simp[results,results59,go_sem],⟨_,rfl⟩,.inl ⟨filU A L0 xs,by rw[zao,hxs],hJ.putObj _ hj oM hK rfl⟩⟩
 case stop=>
  rintro D c pre X hD hpre ⟨rfl,hjx⟩ hK;gi_wp2_with fail;refine⟨sM,.inl ⟨_,_,rfl,run_takeDeferred hK,?_⟩⟩;exact⟨.tuple #[],by simp[results,results59,go_sem],⟨_,rfl⟩,.inr ⟨filU A L0 pre,by rw[zao];exact zej hpre,hJx.putObj _ hjx oM hK rfl⟩⟩
end
section
variable{w:World}{hi:Nat}{tv:Value}
attribute [local go_sem] Oper.semAt_some
def TN.bind(x:TN):Option Addr:=
 match x.t,x.v with
 |.fn ..,.iface _ (.pointer (some a))=>some ⟨a.block,2,none⟩
 |.Am ..,.iface _ (.pointer (some a))=>some ⟨a.block,3,none⟩
 |_,_=>none
theorem zek{x:TN}(h:Rep w 0 hi x.t x.v)(W:World):Calls prog 58 #[x.v] W λe W'=>e=.returned (.pointer x.bind)/\W=W':=by
 have⟨t,v⟩:=x;cases t with
 |name=>obtain⟨b,_,_,rfl,_⟩:=h;exact zb8 W b
 |int=>obtain⟨b,_,_,rfl,_⟩:=h;exact zee W b
 |Ak=>obtain⟨b,_,_,rfl,_⟩:=h;exact zam W b
 |side=>obtain⟨b,_,_,rfl,_⟩:=h;exact zb9 W b
 |bracket=>obtain⟨_,⟨b,_,_,rfl,_⟩,_⟩:=h;exact Xo W b
 |pair=>obtain⟨_,_,⟨b,_,_,rfl,_⟩,_⟩:=h;exact zca W b
 |call=>obtain⟨_,_,⟨b,_,_,rfl,_⟩,_⟩:=h;exact zcb W b
 |binary=>obtain⟨_,_,⟨b,_,_,rfl,_⟩,_⟩:=h;exact Zk W b
 |cond=>obtain⟨_,_,_,⟨b,_,_,rfl,_⟩,_⟩:=h;exact zgd W b
 |fn=>obtain⟨_,⟨b,_,_,rfl,_⟩,_⟩:=h;exact zef W b
 |Am=>obtain⟨_,_,⟨b,_,_,rfl,_⟩,_⟩:=h;exact zeg W b
def Ig(L:List TN):List TN:=L.filter λx=>x.bind.isSome
theorem Hb(L M:List TN):Ig (L++M)=Ig L++Ig M:=by simp[Ig]
theorem zel{L M:List TN}(h:L <+:M):Ig L <+:Ig M:=by
 obtain⟨r,rfl⟩:=h;exact⟨Ig r,(Hb L r).symm⟩
theorem zcd(w:World)(a:∃T n,tv=.iface T (pT n)):
  Calls prog 35 #[tv] w λe w'=>e=.returned (.func (.func 56) #[] #[pT w.heap.size])/\w'=w.alloc (.cells #[tv] 68):=by
 obtain⟨b,c,rfl⟩:=a;go_in;go_wp21;go_ret;exact⟨rfl,rfl⟩
abbrev BIn(L0:List TN):={x:TN // x∈Ig L0}
abbrev zv2(L0:List TN)(x:BIn L0):Array Value:=#[.pointer x.1.bind]
def filB(L0:List TN):List (zkn L0)->List (BIn L0)
 |[]=>[]
 |x::l=>if h:x.1.bind.isSome=true then⟨x.1,by simp[Ig,x.2,h]⟩::filB L0 l else filB L0 l
theorem Sk(L0:List TN):∀(a b:List (zkn L0)),filB L0 (a++b)=filB L0 a++filB L0 b
 |[],b=>rfl
 |x::a,b=>by
  simp[List.cons_append,filB,Sk L0 a b];split<;>simp
theorem zap(L0:List TN):∀(a:List (zkn L0)),(filB L0 a).map (·.1)=Ig (a.map (·.1))
 |[]=>rfl
 |x::a=>by
  simp only[filB,List.map_cons,Ig,List.filter_cons]
  have:=zap L0 a;unfold Ig at this;split
  ·rename_i h;show x.1::(filB L0 a).map (·.1)=_;rw[this]
  ·rename_i h;rw[this]
theorem zgh(L0:List TN):∀(a:List (zkn L0)),(filB L0 a).length<=a.length
 |[]=>znL _
 |x::a=>by
  have:=zgh L0 a;simp only[filB];split<;>simp<;>omega
theorem zng{R:Nat}{t:Tw.T}{L0:List TN}(hR:zH w R #[tv] 68)(hn:NDL w hi t tv L0):
  zol prog 56 #[pT R] (zv2 L0) Kp (λys=>ys.map (·.1)=Ig L0) (λpre=>pre.map (·.1) <+:Ig L0) L0.length w:=by
 intro l J Jx W hW hJ hJx hY h0;have KW:Kp w W:=λk c t m x _=>(hW.block k (zgE.1 x).1).trans x;have hR':=KW _ _ _ _ hR dZ;have hn':=hn.kp KW;have hrep:=hn.rep.2;obtain⟨T0,n0,rfl⟩:=hn.iface;refine(callsIn_wide (n:=3)).1 ?_;refine callsIn_of_wp_marks func56 rfl trivial ?_;simp only[ntmps56,List.size_toArray,zB,zD,Nat.reduceAdd,Nat.reduceSub,Array.replicate_succ,Array.replicate_zero,List.push_toArray,List.append_toArray,rD,pD];obtain⟨W1,hW1⟩:∃W1,W.alloc (.cells #[Ht l] 130)=W1:=⟨_,rfl⟩;have G1:zG W W1:=by rw[<-hW1];exact zwA _ _ none
 have hY1:W1.heap[W.heap.size]?=some (.cells #[Ht l] 130 (0,0)):=by rw[<-hW1];exact Ac W _
 have K1:=Kp.Ae G1;have hR1:=K1 _ _ _ _ hR' dZ;have hn1:=hn'.kp K1;have hJ1:=hJ _ _ _ none h0 G1 (λr e=>by cases e);have c0:W1.cell? (aD R 0)=some (.iface T0 (pT n0)):=zcR hR1;have z1:W1.heap.size=W.heap.size+1:=by rw[<-hW1];simp
 gi_wp2_with fail;refine⟨trivial,?_⟩;refine(callsIn_wide.2 (znf W1 ⟨T0,n0,rfl⟩)).mono ?_;rintro e1 w3 ⟨rfl,rfl⟩;obtain⟨W2,hW2⟩:∃W2,W1.alloc (.cells #[.iface T0 (pT n0)] 68)=W2:=⟨_,rfl⟩;have G2:zG W1 W2:=by rw[<-hW2];exact zwA _ _ none
 have hne:W2.heap[W1.heap.size]?=some (.cells #[.iface T0 (pT n0)] 68 (0,0)):=by rw[<-hW2];exact Ac W1 _
 have K2:=Kp.Ae G2;have hY2:=K2 _ _ _ _ hY1 dZ;have hn2:=hn1.kp K2;have hJ2:=hJ _ _ _ none hJ1 G2 (λr e=>by cases e);have z2:W2.heap.size=W.heap.size+2:=by rw[<-hW2];simp;omega
 rw[hW2];gi_wp2_with fail;rw[z1]at hne;refine zgc (p:=7) (d1:=3) rfl (enters_of func108 kR rfl) (zk2 (n:=0) (zge hne hn2)) (λh k=>h.trans k) zpk (Below.refl _ _)
  (λpre X=>J (filB L0 pre) X/\zH X W.heap.size #[Ht l] 130)
  (λc pre X=>c=.ret/\Jx (filB L0 pre) X) ?own ?ownx ⟨hJ2,hY2⟩ ?assign ?body ?done ?stop
 case own=>
  rintro s X Y row ⟨h1,h2⟩ hg hr;exact⟨hJ _ X Y row h1 hg (λr e=>⟨by have:=(hr r e).1;omega,(hr r e).2⟩),Iw (β:=Unit) _ _ _ _ _ () X Y row h2 hg hr⟩
 case ownx=>
  rintro c s X Y row ⟨h1,h2⟩ hg hr;exact⟨h1,hJx _ X Y row h2 hg (λr e=>⟨by have:=(hr r e).1;omega,(hr r e).2⟩)⟩
 case assign=>
  intro l x X K hK;simp only[zsA,zsZ,zsS]at hK ⊢
  gi_wp2;exact hK
 case body=>
  rintro lr pre ⟨x,hx⟩ X hlr hrec ⟨hj,hyc⟩ hlt;have c3:X.cell? (aD W.heap.size 0)=some (Ht l):=zcR hyc;have HB:=zek (hrep x hx) X;simp only[zsA,zsZ,zsS];cases hxk:x.bind with
  |some A=>
   have hb1:x.bind.isSome=true:=(by rw[hxk];rfl);have⟨fn,tmps,asg,bd,hy,hR⟩:=hY (filB L0 pre) ⟨x,by simp[Ig,hx,hb1]⟩ X hj (Nat.lt_of_le_of_lt (zgh L0 pre) hlt) trivial;have fe:filB L0 (pre++[⟨x,hx⟩])=filB L0 pre++[⟨x,by simp[Ig,hx,hb1]⟩]:=(by rw[Sk];simp[filB,hb1]);unfold zv2 at hy;rw[hxk]at hy;gi_wp2_with fail;refine⟨trivial,rfl,?_⟩;refine(CallsIn.inRound lr (callsIn_wide.2 HB)).mono ?_;rintro e1 X1 ⟨rfl,rfl⟩;rw[hxk];gi_wp2_with fail;refine⟨rfl,?_⟩;have HR':=hR;refine HR'.mono ?_;rintro e2 X2 ⟨kf,⟨rfl,hj2,hk2⟩|⟨rfl,hx2⟩⟩
   ·have hyc2:=hk2 _ _ _ _ hyc dZ
    gi_wp2;exact⟨Ey oM kf,hk2,by rw[fe];exact hj2,hyc2⟩
   ·gi_wp2;exact⟨Ey oM kf,rfl,by rw[fe];exact hx2⟩
  |none=>
   have hb1:¬x.bind.isSome=true:=(by rw[hxk];simp);have fe:filB L0 (pre++[⟨x,hx⟩])=filB L0 pre:=(by rw[Sk];simp[filB,hb1]);gi_wp2_with fail;refine⟨trivial,rfl,?_⟩;refine(CallsIn.inRound lr (callsIn_wide.2 HB)).mono ?_;rintro e1 X1 ⟨rfl,rfl⟩;rw[hxk];gi_wp2_with fail;refine⟨λ_ h=>(by cases h),?_⟩
   gi_wp2;exact⟨KeepsFrom.refl _ _,Kp.refl _,by rw[fe];exact hj,hyc⟩
 case done=>
  rintro D xs X hD hxs ⟨hj,_⟩ hK;gi_wp2_with fail;refine⟨sM,.inl ⟨_,_,rfl,run_takeDeferred hK,?_⟩⟩;exact⟨.tuple #[],by simp[results,results56,go_sem],⟨_,rfl⟩,.inl ⟨filB L0 xs,by rw[zap,hxs],hJ.putObj _ hj oM hK rfl⟩⟩
 case stop=>
  rintro D c pre X hD hpre ⟨rfl,hjx⟩ hK;gi_wp2_with fail;refine⟨sM,.inl ⟨_,_,rfl,run_takeDeferred hK,?_⟩⟩;exact⟨.tuple #[],by simp[results,results56,go_sem],⟨_,rfl⟩,.inr ⟨filB L0 pre,by rw[zap];exact zel hpre,hJx.putObj _ hjx oM hK rfl⟩⟩
end
end
end Go.Proofs.YtckhafpejefbbaaGreatDoor
