import Derived.Test.YtckhafpejefbbaaGreatDoorB16
import Derived.LaidEql

set_option maxRecDepth 100000
set_option maxHeartbeats 4000000
namespace Go.Proofs.YtckhafpejefbbaaGreatDoor
section
open Go.Proofs.Tryz
open Go Go.RowKit
variable {P:Program} (w:World)
variable{t te ta tb:TypeId}{j:TypeInfo}{a b:Addr}{ca cb:Array Value}{sz:Nat}
theorem Tj(d:Nat)(e:P.underlying t=some (.pointer te))(c:P.info? te=some j)(a:Addr):
  (Op.equalIn (d+1) t (.pointer (some a)) (.pointer (some a))).run P w=.ok true w:=by
 simp[Op.equalIn,run_underlying e,sizeOf,typeInfo,c,run_sameAddr_same]
theorem Sa(d:Nat)(h:P.underlying t=some (.pointer te))(f:P.info? te=some j)(i:j.size≠0)(g:a≠b)
  (c:w.heap[a.block]?=some (.cells ca ta (0,0))) (e:w.heap[b.block]?=some (.cells cb tb (0,0))) :
  (Op.equalIn (d+1) t (.pointer (some a)) (.pointer (some b))).run P w=.ok false w:=by
 simp[Op.equalIn,run_underlying h,sizeOf,typeInfo,f,i,run_sameAddr_other w g c e]
theorem Tk(d:Nat)(c:P.underlying t=some (.pointer te))(b:Addr):
  (Op.equalIn (d+1) t (.pointer none) (.pointer (some b))).run P w=.ok false w:=by
 simp[Op.equalIn,run_underlying c]
theorem Z0(d:P.underlying t=some (.pointer te))(e:(P.info? te).map (·.size)=some sz)(a:Addr):
  Sem.run P (binOp .eql t (.pointer (some a)) (.pointer (some a))) w=.ok (.bool true) w:=by
 obtain⟨j,c,_⟩:=Option.map_eq_some_iff.1 e;simp only[binOp];simp[Op.equal,Op.maxDepth,Tj w 9999 d c a]
theorem Xw(g:P.underlying t=some (.pointer te))(i:(P.info? te).map (·.size)=some sz)(h:sz≠0)(f:a≠b)
  (c:w.heap[a.block]?=some (.cells ca ta (0,0))) (d:w.heap[b.block]?=some (.cells cb tb (0,0))) :
  Sem.run P (binOp .eql t (.pointer (some a)) (.pointer (some b))) w=.ok (.bool false) w:=by
 obtain⟨j,e,k⟩:=Option.map_eq_some_iff.1 i;simp only[binOp];simp[Op.equal,Op.maxDepth,Sa w 9999 g e (by rw[k];exact h) f c d]
theorem Z1(c:P.underlying t=some (.pointer te))(b:Addr):
  Sem.run P (binOp .eql t (.pointer none) (.pointer (some b))) w=.ok (.bool false) w:=by
 simp only[binOp];simp[Op.equal,Op.maxDepth,Tk w 9999 c b]
theorem V8:Tryz.prog.underlying 79=some (.pointer 89):=kR
theorem zbl:(Tryz.prog.info? 89).map (·.size)=some 2:=kR
end
section
open Tw Go.Proofs.Tryz
open Go.RowKit Go.Shelf
variable{w:World}{A:Addr}{tv:Value}
attribute [local go_sem] Oper.semAt_some
def BinBlk(w:World)(a:Addr):Prop:=∃c t,w.heap[a.block]?=some (.cells c t (0,0))/\Qm.contains t=true
theorem BinBlk.kp{d:World}{a:Addr}(h:BinBlk w a)(f:Kp w d):BinBlk d a:=by
 obtain⟨c,t,e,b⟩:=h;exact⟨c,t,f _ _ _ _ e b,b⟩
def BEn.blk(w:World)(e:Tw.BEn):Prop:=∀x a,e.look x=some a->BinBlk w a
theorem BEn.blk.cons{w:World}{e:Tw.BEn}(h:BEn.blk w e)(n:List UInt8){a:Addr}(d:BinBlk w a):BEn.blk w (.cons n a e):=λx c b=>by
 simp only[Tw.BEn.look]at b;split at b
 ·cases b;exact d
 ·exact h x c b
theorem NL.blk{w:World}{hi:Nat}:∀ {t:Tw.T} {v:Value} {e:Tw.BEn} {L:List NB},NL w hi t v e L->BEn.blk w e->∀x∈L,∀a,x.k=some a->BinBlk w a
 |.name ..,_,e,_,⟨b,_,rfl⟩,he=>by
  intro x g a i;simp only[xB]at g;subst g;exact he _ _ i
 |.int ..,_,_,_,⟨_,rfl⟩,_=>sM
 |.truth ..,_,_,_,⟨_,rfl⟩,_=>sM
 |.side ..,_,_,_,⟨_,rfl⟩,_=>sM
 |.bracket ..,_,_,_,⟨_,_,r1⟩,he=>NL.blk r1 he
 |.pair ..,_,_,_,⟨_,_,_,_,_,r1,r2,rfl⟩,he=>λy c=>(zmA.1 c).elim (NL.blk r1 he y) (NL.blk r2 he y)
 |.call ..,_,_,_,⟨_,_,_,_,_,r1,r2,rfl⟩,he=>λy c=>(zmA.1 c).elim (NL.blk r1 he y) (NL.blk r2 he y)
 |.binary ..,_,_,_,⟨_,_,_,_,_,r1,r2,rfl⟩,he=>λy c=>(zmA.1 c).elim (NL.blk r1 he y) (NL.blk r2 he y)
 |.cond ..,_,_,_,⟨_,_,_,_,_,_,_,r1,r2,r3,rfl⟩,he=>λy c=>(zmA.1 c).elim (λh=>(zmA.1 h).elim (NL.blk r1 he y) (NL.blk r2 he y)) (NL.blk r3 he y)
 |.fn _ _ bn _ _,_,_,_,⟨k,v1,⟨_,_,hb⟩,r1⟩,he=>NL.blk r1 (he.cons bn ⟨_,_,hb,dZ⟩)
 |.lett _ _ rc bn _ d b,_,e,_,⟨k,v1,v2,L1,L2,⟨_,_,hb⟩,r1,r2,rfl⟩,he=>λy c=>by
  have f:=he.cons bn (a:=(aD k 3)) ⟨_,_,hb,dZ⟩;refine(zmA.1 c).elim (NL.blk r1 ?_ y) (NL.blk r2 f y);cases rc
  ·exact he
  ·exact f
def Gq(A:Addr)(L:List NB):List NB:=L.filter λx=>decide (x.k=some A)
theorem Cn(A:Addr)(L M:List NB):Gq A (L++M)=Gq A L++Gq A M:=by simp[Gq]
theorem Z2{L M:List NB}(h:L <+:M):Gq A L <+:Gq A M:=by
 obtain⟨r,rfl⟩:=h;exact⟨Gq A r,(Cn A L r).symm⟩
theorem zjm(w:World)(a:∃T n,tv=.iface T (pT n))(A:Addr):
  Calls prog 36 #[tv,.pointer (some A)] w λe b=>e=.returned (.func (.func 59) #[] #[pT w.heap.size,.pointer (some ⟨w.heap.size+1,0,none⟩)])/\b=(w.alloc (.cells #[tv] 68)).alloc (.cells #[.pointer (some A)] 79):=by
 obtain⟨c,d,rfl⟩:=a
 go_in;go_wp2_with fail;go_ret;refine⟨?_,rfl⟩;simp
abbrev UIn(A:Addr)(L0:List NB):={x:NB // x∈Gq A L0}
abbrev encU(A:Addr)(L0:List NB)(x:UIn A L0):Array Value:=#[.pointer (some ⟨x.1.nb,0,none⟩)]
def filU(A:Addr)(L0:List NB):List (NBIn L0)->List (UIn A L0)
 |[]=>[]
 |x::l=>if h:x.1.k=some A then⟨x.1,by simp[Gq,x.2,h]⟩::filU A L0 l else filU A L0 l
theorem Oz(A:Addr)(L0:List NB):∀(a b:List (NBIn L0)),filU A L0 (a++b)=filU A L0 a++filU A L0 b
 |[],b=>rfl
 |x::a,b=>by
  simp only[pD,filU,Oz A L0 a b];split<;>simp
theorem V9(A:Addr)(L0:List NB):∀(a:List (NBIn L0)),(filU A L0 a).map (·.1)=Gq A (a.map (·.1))
 |[]=>rfl
 |x::a=>by
  simp only[filU,List.map_cons,Gq,List.filter_cons]
  have:=V9 A L0 a;unfold Gq at this;split
  ·rename_i h;show x.1::(filU A L0 a).map (·.1)=_;rw[this,mA (by simpa using h)]
  ·rename_i h;rw[this,jA (by simpa using h)]
theorem zbm(A:Addr)(L0:List NB):∀(a:List (NBIn L0)),(filU A L0 a).length<=a.length
 |[]=>znL _
 |x::a=>by
  have:=zbm A L0 a;simp only[filU];split<;>simp<;>omega
theorem zms{hi R Bb:Nat}{t:Tw.T}{L0:List NB}(hR:w.heap[R]?=some (.cells #[tv] 68 (0,0)))(hA:w.heap[Bb]?=some (.cells #[.pointer (some A)] 79 (0,0)))(hn:NL w hi t tv .nil L0)(hAb:BinBlk w A):
  SeqO prog 59 #[pT R,pT Bb] (encU A L0) Kp (λys=>ys.map (·.1)=Gq A L0) (λpre=>pre.map (·.1) <+:Gq A L0) L0.length w:=by
 intro l J Jx W hW hJ hJx hY h0;have KW:Kp w W:=λk c t m x _=>(hW.block k (zgE.1 x).1).trans x;have hR':=KW _ _ _ _ hR dZ;have hA':=KW _ _ _ _ hA dZ;have hn':=hn.kp KW;have hAb':=hAb.kp KW;have hblk:=hn'.blk (λx a h=>by cases h);obtain⟨T0,n0,rfl⟩:=hn.iface;refine(callsIn_wide (n:=3)).1 ?_;refine callsIn_of_wp_marks func59 rfl trivial ?_;simp only[ntmps59,List.size_toArray,zB,zD,Nat.reduceAdd,Nat.reduceSub,Array.replicate_succ,Array.replicate_zero,List.push_toArray,List.append_toArray,rD,pD];obtain⟨W1,hW1⟩:∃W1,W.alloc (.cells #[Fv l] 135)=W1:=⟨_,rfl⟩;have G1:W.grownBy W1 none:=by rw[<-hW1];exact zwA _ _ none
 have hY1:W1.heap[W.heap.size]?=some (.cells #[Fv l] 135 (0,0)):=by rw[<-hW1];exact Ac W _
 have K1:=Kp.of_grown G1;have hR1:=K1 _ _ _ _ hR' dZ;have hA1:=K1 _ _ _ _ hA' dZ;have hn1:=hn'.kp K1;have K01:Kp W W1:=K1;have hJ1:J [] W1:=hJ _ _ _ none h0 G1 (λr e=>by cases e);have c0:W1.cell? (aD R 0)=some (.iface T0 (pT n0)):=zcR hR1;have z1:W1.heap.size=W.heap.size+1:=by rw[<-hW1];simp
 gi_wp2_with fail;refine⟨trivial,?_⟩;refine(callsIn_wide.2 (Yl W1 ⟨T0,n0,rfl⟩)).mono ?_;rintro e1 w3 ⟨rfl,rfl⟩;obtain⟨W2,hW2⟩:∃W2,W1.alloc (.cells #[.iface T0 (pT n0)] 68)=W2:=⟨_,rfl⟩;have G2:W1.grownBy W2 none:=by rw[<-hW2];exact zwA _ _ none
 have hne:W2.heap[W1.heap.size]?=some (.cells #[.iface T0 (pT n0)] 68 (0,0)):=by rw[<-hW2];exact Ac W1 _
 have K2:=Kp.of_grown G2;have hY2:=K2 _ _ _ _ hY1 dZ;have hA2:=K2 _ _ _ _ hA1 dZ;have hn2:=hn1.kp K2;have K02:Kp W W2:=K01.trans K2;have hJ2:J [] W2:=hJ _ _ _ none hJ1 G2 (λr e=>by cases e);have z2:W2.heap.size=W.heap.size+2:=by rw[<-hW2];simp;omega
 rw[hW2];gi_wp2_with fail;rw[z1]at hne;refine zjl (p:=8) (q:=9) (d1:=4) (d2:=5) rfl (enters_of func83 kR rfl) (zfb (n:=0) (Ul hne hn2)) (λh k=>h.trans k) zjb (Below.refl _ _)
  (λpre X=>(J (filU A L0 pre) X/\Kp W X)/\X.heap[W.heap.size]?=some (.cells #[Fv l] 135 (0,0))/\X.heap[Bb]?=some (.cells #[.pointer (some A)] 79 (0,0)))
  (λc pre X=>c=.ret/\Jx (filU A L0 pre) X) ?own ?ownx ⟨⟨hJ2,K02⟩,hY2,hA2⟩ ?assign ?body ?done ?stop
 case own=>
  rintro s X Y row ⟨⟨h1,h0⟩,h2,h3⟩ hg hr;exact⟨⟨hJ _ X Y row h1 hg (λr e=>⟨by have:=(hr r e).1;omega,(hr r e).2⟩),λk c t m hk ht=>Gw (β:=Unit) _ _ _ _ _ () X Y row (h0 k c t m hk ht) hg hr⟩,Gw (β:=Unit) _ _ _ _ _ () X Y row h2 hg hr,Gw (β:=Unit) _ _ _ _ _ () X Y row h3 hg hr⟩
 case ownx=>
  rintro c s X Y row ⟨h1,h2⟩ hg hr;exact⟨h1,hJx _ X Y row h2 hg (λr e=>⟨by have:=(hr r e).1;omega,(hr r e).2⟩)⟩
 case assign=>
  intro l x X K hK;simp only[zsA,zsZ,zsS]at hK ⊢
  gi_wp2;exact hK
 case body=>
  rintro lr pre ⟨x,hx⟩ X hlr hrec ⟨⟨hj,hkx⟩,hyc,hac⟩ hlt;obtain⟨cA,tA,hA3,_⟩:=hAb'.kp hkx;have c3:X.cell? (aD W.heap.size 0)=some (Fv l):=zcR hyc;have c2:X.cell? (aD Bb 0)=some (.pointer (some A)):=zcR hac;by_cases hk:x.k=some A
  ·obtain⟨fn,tmps,asg,bd,hy,hR⟩:=hY (filU A L0 pre) ⟨x,by simp[Gq,hx,hk]⟩ X hj (Nat.lt_of_le_of_lt (zbm A L0 pre) hlt) trivial;have HR:=bV hR;have HC:=bV (And.intro hyc hac);have hq:=Z0 X V8 zbl A;have HKX:=bV hkx;have fe:filU A L0 (pre++[⟨x,hx⟩])=filU A L0 pre++[⟨x,by simp[Gq,hx,hk]⟩]:=(by rw[Oz];simp[filU,hk]);have HF:=bV fe;simp only[zsA,zsZ,zsS,hk];gi_wp2_with fail;refine⟨rfl,?_⟩;have HR':RoundIn (Fence.wide.inRound lr) 0 prog l fn tmps asg bd X _:=uh HR;refine HR'.mono ?_;rintro e2 X2 ⟨kf,⟨rfl,hj2,hk2⟩|⟨rfl,hx2⟩⟩
   ·have hyc2:=hk2 _ _ _ _ (uh HC).1 dZ;have hac2:=hk2 _ _ _ _ (uh HC).2 dZ
    gi_wp2;exact⟨Dw oM kf,hk2,⟨by rw[uh HF];exact hj2,(uh HKX).trans hk2⟩,hyc2,hac2⟩
   ·gi_wp2;exact⟨Dw oM kf,rfl,by rw[uh HF];exact hx2⟩
  ·have fe:filU A L0 (pre++[⟨x,hx⟩])=filU A L0 pre:=(by rw[Oz];simp[filU,hk]);have HJ':=bV hj;have HF:=bV fe;cases hxk:x.k with
   |none=>
    have hq:=Z1 X V8 A;simp only[zsA,zsZ,zsS]
    gi_wp2;refine⟨λ_ h=>(by cases h),?_⟩
    gi_wp2;exact⟨KeepsFrom.refl _ _,Kp.refl _,⟨by rw[uh HF];exact uh HJ',hkx⟩,hyc,hac⟩
   |some a'=>
    obtain⟨cB,tB,hB3,_⟩:=(hblk x hx a' hxk).kp hkx;have hq:=Xw X V8 zbl dZ (λe=>hk (by rw[hxk,e])) hB3 hA3;simp only[zsA,zsZ,zsS]
    gi_wp2;refine⟨λ_ h=>(by cases h),?_⟩
    gi_wp2;exact⟨KeepsFrom.refl _ _,Kp.refl _,⟨by rw[uh HF];exact uh HJ',hkx⟩,hyc,hac⟩
 case done=>
  rintro D xs X hD hxs ⟨⟨hj,_⟩,_,_⟩ hK;gi_wp2_with fail;refine⟨sM,.inl ⟨_,_,rfl,run_takeDeferred hK,?_⟩⟩;exact⟨.tuple #[],by simp[results,results59,go_sem],⟨_,rfl⟩,.inl ⟨filU A L0 xs,by rw[V9,hxs],hJ.putObj _ hj oM hK rfl⟩⟩
 case stop=>
  rintro D c pre X hD hpre ⟨rfl,hjx⟩ hK;gi_wp2_with fail;refine⟨sM,.inl ⟨_,_,rfl,run_takeDeferred hK,?_⟩⟩;exact⟨.tuple #[],by simp[results,results59,go_sem],⟨_,rfl⟩,.inr ⟨filU A L0 pre,by rw[V9];exact Z2 hpre,hJx.putObj _ hjx oM hK rfl⟩⟩
end
section
open Tw Go.Proofs.Tryz
open Go.RowKit Go.Shelf
variable{w:World}{hi:Nat}{tv:Value}
attribute [local go_sem] Oper.semAt_some
def TN.bind(x:TN):Option Addr:=
 match x.t,x.v with
 |.fn ..,.iface _ (.pointer (some a))=>some ⟨a.block,2,none⟩
 |.lett ..,.iface _ (.pointer (some a))=>some ⟨a.block,3,none⟩
 |_,_=>none
theorem Z3{x:TN}(h:Rep w 0 hi x.t x.v)(W:World):Calls prog 58 #[x.v] W λe W'=>e=.returned (.pointer x.bind)/\W=W':=by
 obtain⟨t,v⟩:=x;cases t with
 |name=>obtain⟨b,_,_,rfl,_⟩:=h;exact Xs W b
 |int=>obtain⟨b,_,_,rfl,_⟩:=h;exact Zx W b
 |truth=>obtain⟨b,_,_,rfl,_⟩:=h;exact V7 W b
 |side=>obtain⟨b,_,_,rfl,_⟩:=h;exact Xt W b
 |bracket=>obtain⟨_,⟨b,_,_,rfl,_⟩,_⟩:=h;exact Ti W b
 |pair=>obtain⟨_,_,⟨b,_,_,rfl,_⟩,_⟩:=h;exact Xu W b
 |call=>obtain⟨_,_,⟨b,_,_,rfl,_⟩,_⟩:=h;exact Xv W b
 |binary=>obtain⟨_,_,⟨b,_,_,rfl,_⟩,_⟩:=h;exact U9 W b
 |cond=>obtain⟨_,_,_,⟨b,_,_,rfl,_⟩,_⟩:=h;exact zbj W b
 |fn=>obtain⟨_,⟨b,_,_,rfl,_⟩,_⟩:=h;exact Zy W b
 |lett=>obtain⟨_,_,⟨b,_,_,rfl,_⟩,_⟩:=h;exact Zz W b
def Gi(L:List TN):List TN:=L.filter λx=>x.bind.isSome
theorem Fe(L M:List TN):Gi (L++M)=Gi L++Gi M:=by simp[Gi]
theorem Z4{L M:List TN}(h:L <+:M):Gi L <+:Gi M:=by
 obtain⟨r,rfl⟩:=h;exact⟨Gi r,(Fe L r).symm⟩
theorem Xx(w:World)(a:∃T n,tv=.iface T (pT n)):
  Calls prog 35 #[tv] w λe b=>e=.returned (.func (.func 56) #[] #[pT w.heap.size])/\b=w.alloc (.cells #[tv] 68):=by
 obtain⟨c,d,rfl⟩:=a
 go_in;go_wp2_with fail;go_ret;exact⟨rfl,rfl⟩
abbrev BIn(L0:List TN):={x:TN // x∈Gi L0}
abbrev encB(L0:List TN)(x:BIn L0):Array Value:=#[.pointer x.1.bind]
def filB(L0:List TN):List (TNIn L0)->List (BIn L0)
 |[]=>[]
 |x::l=>if h:x.1.bind.isSome=true then⟨x.1,by simp[Gi,x.2,h]⟩::filB L0 l else filB L0 l
theorem O0(L0:List TN):∀(a b:List (TNIn L0)),filB L0 (a++b)=filB L0 a++filB L0 b
 |[],b=>rfl
 |x::a,b=>by
  simp only[pD,filB,O0 L0 a b];split<;>simp
theorem Wa(L0:List TN):∀(a:List (TNIn L0)),(filB L0 a).map (·.1)=Gi (a.map (·.1))
 |[]=>rfl
 |x::a=>by
  simp only[filB,List.map_cons,Gi,List.filter_cons]
  have:=Wa L0 a;unfold Gi at this;split
  ·rename_i h;show x.1::(filB L0 a).map (·.1)=_;rw[this]
  ·rename_i h;rw[this]
theorem zbn(L0:List TN):∀(a:List (TNIn L0)),(filB L0 a).length<=a.length
 |[]=>znL _
 |x::a=>by
  have:=zbn L0 a;simp only[filB];split<;>simp<;>omega
theorem zhb{R:Nat}{t:Tw.T}{L0:List TN}(hR:w.heap[R]?=some (.cells #[tv] 68 (0,0)))(hn:NDL w hi t tv L0):
  SeqO prog 56 #[pT R] (encB L0) Kp (λys=>ys.map (·.1)=Gi L0) (λpre=>pre.map (·.1) <+:Gi L0) L0.length w:=by
 intro l J Jx W hW hJ hJx hY h0;have KW:Kp w W:=λk c t m x _=>(hW.block k (zgE.1 x).1).trans x;have hR':=KW _ _ _ _ hR dZ;have hn':=hn.kp KW;have hrep:=hn.rep.2;obtain⟨T0,n0,rfl⟩:=hn.iface;refine(callsIn_wide (n:=3)).1 ?_;refine callsIn_of_wp_marks func56 rfl trivial ?_;simp only[ntmps56,List.size_toArray,zB,zD,Nat.reduceAdd,Nat.reduceSub,Array.replicate_succ,Array.replicate_zero,List.push_toArray,List.append_toArray,rD,pD];obtain⟨W1,hW1⟩:∃W1,W.alloc (.cells #[Fv l] 130)=W1:=⟨_,rfl⟩;have G1:W.grownBy W1 none:=by rw[<-hW1];exact zwA _ _ none
 have hY1:W1.heap[W.heap.size]?=some (.cells #[Fv l] 130 (0,0)):=by rw[<-hW1];exact Ac W _
 have K1:=Kp.of_grown G1;have hR1:=K1 _ _ _ _ hR' dZ;have hn1:=hn'.kp K1;have hJ1:J [] W1:=hJ _ _ _ none h0 G1 (λr e=>by cases e);have c0:W1.cell? (aD R 0)=some (.iface T0 (pT n0)):=zcR hR1;have z1:W1.heap.size=W.heap.size+1:=by rw[<-hW1];simp
 gi_wp2_with fail;refine⟨trivial,?_⟩;refine(callsIn_wide.2 (zha W1 ⟨T0,n0,rfl⟩)).mono ?_;rintro e1 w3 ⟨rfl,rfl⟩;obtain⟨W2,hW2⟩:∃W2,W1.alloc (.cells #[.iface T0 (pT n0)] 68)=W2:=⟨_,rfl⟩;have G2:W1.grownBy W2 none:=by rw[<-hW2];exact zwA _ _ none
 have hne:W2.heap[W1.heap.size]?=some (.cells #[.iface T0 (pT n0)] 68 (0,0)):=by rw[<-hW2];exact Ac W1 _
 have K2:=Kp.of_grown G2;have hY2:=K2 _ _ _ _ hY1 dZ;have hn2:=hn1.kp K2;have hJ2:J [] W2:=hJ _ _ _ none hJ1 G2 (λr e=>by cases e);have z2:W2.heap.size=W.heap.size+2:=by rw[<-hW2];simp;omega
 rw[hW2];gi_wp2_with fail;rw[z1]at hne;refine zbi (p:=7) (d1:=3) rfl (enters_of func108 kR rfl) (zfb (n:=0) (zbk hne hn2)) (λh k=>h.trans k) zjb (Below.refl _ _)
  (λpre X=>J (filB L0 pre) X/\X.heap[W.heap.size]?=some (.cells #[Fv l] 130 (0,0)))
  (λc pre X=>c=.ret/\Jx (filB L0 pre) X) ?own ?ownx ⟨hJ2,hY2⟩ ?assign ?body ?done ?stop
 case own=>
  rintro s X Y row ⟨h1,h2⟩ hg hr;exact⟨hJ _ X Y row h1 hg (λr e=>⟨by have:=(hr r e).1;omega,(hr r e).2⟩),Gw (β:=Unit) _ _ _ _ _ () X Y row h2 hg hr⟩
 case ownx=>
  rintro c s X Y row ⟨h1,h2⟩ hg hr;exact⟨h1,hJx _ X Y row h2 hg (λr e=>⟨by have:=(hr r e).1;omega,(hr r e).2⟩)⟩
 case assign=>
  intro l x X K hK;simp only[zsA,zsZ,zsS]at hK ⊢
  gi_wp2;exact hK
 case body=>
  rintro lr pre ⟨x,hx⟩ X hlr hrec ⟨hj,hyc⟩ hlt;have c3:X.cell? (aD W.heap.size 0)=some (Fv l):=zcR hyc;have HB:=bV (Z3 (hrep x hx) X);have HY:=bV hyc;simp only[zsA,zsZ,zsS];cases hxk:x.bind with
  |some A=>
   have hb1:x.bind.isSome=true:=(by rw[hxk];rfl);obtain⟨fn,tmps,asg,bd,hy,hR⟩:=hY (filB L0 pre) ⟨x,by simp[Gi,hx,hb1]⟩ X hj (Nat.lt_of_le_of_lt (zbn L0 pre) hlt) trivial;have HR:=bV hR;have fe:filB L0 (pre++[⟨x,hx⟩])=filB L0 pre++[⟨x,by simp[Gi,hx,hb1]⟩]:=(by rw[O0];simp[filB,hb1]);have HF:=bV fe;unfold encB at hy;rw[hxk]at hy;gi_wp2_with fail;refine⟨trivial,rfl,?_⟩;refine(CallsIn.inRound lr (callsIn_wide.2 (uh HB))).mono ?_;rintro e1 X1 ⟨rfl,rfl⟩;rw[hxk];gi_wp2_with fail;refine⟨rfl,?_⟩;have HR':RoundIn (Fence.wide.inRound lr) 0 prog l fn tmps asg bd X _:=uh HR;refine HR'.mono ?_;rintro e2 X2 ⟨kf,⟨rfl,hj2,hk2⟩|⟨rfl,hx2⟩⟩
   ·have hyc2:=hk2 _ _ _ _ (uh HY) dZ
    gi_wp2;exact⟨Dw oM kf,hk2,by rw[uh HF];exact hj2,hyc2⟩
   ·gi_wp2;exact⟨Dw oM kf,rfl,by rw[uh HF];exact hx2⟩
  |none=>
   have hb1:¬x.bind.isSome=true:=(by rw[hxk];simp);have fe:filB L0 (pre++[⟨x,hx⟩])=filB L0 pre:=(by rw[O0];simp[filB,hb1]);have HJ':=bV hj;have HF:=bV fe;gi_wp2_with fail;refine⟨trivial,rfl,?_⟩;refine(CallsIn.inRound lr (callsIn_wide.2 (uh HB))).mono ?_;rintro e1 X1 ⟨rfl,rfl⟩;rw[hxk];gi_wp2_with fail;refine⟨λ_ h=>(by cases h),?_⟩
   gi_wp2;exact⟨KeepsFrom.refl _ _,Kp.refl _,by rw[uh HF];exact uh HJ',uh HY⟩
 case done=>
  rintro D xs X hD hxs ⟨hj,_⟩ hK;gi_wp2_with fail;refine⟨sM,.inl ⟨_,_,rfl,run_takeDeferred hK,?_⟩⟩;exact⟨.tuple #[],by simp[results,results56,go_sem],⟨_,rfl⟩,.inl ⟨filB L0 xs,by rw[Wa,hxs],hJ.putObj _ hj oM hK rfl⟩⟩
 case stop=>
  rintro D c pre X hD hpre ⟨rfl,hjx⟩ hK;gi_wp2_with fail;refine⟨sM,.inl ⟨_,_,rfl,run_takeDeferred hK,?_⟩⟩;exact⟨.tuple #[],by simp[results,results56,go_sem],⟨_,rfl⟩,.inr ⟨filB L0 pre,by rw[Wa];exact Z4 hpre,hJx.putObj _ hjx oM hK rfl⟩⟩
end
end Go.Proofs.YtckhafpejefbbaaGreatDoor
