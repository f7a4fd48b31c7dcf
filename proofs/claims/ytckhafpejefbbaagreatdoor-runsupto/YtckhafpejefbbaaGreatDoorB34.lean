import Derived.Test.YtckhafpejefbbaaGreatDoorB33
import Derived.Test.YtckhafpejefbbaaGreatDoorB32

set_option maxRecDepth 100000
set_option maxHeartbeats 16000000
namespace Go.Proofs.YtckhafpejefbbaaGreatDoor
section
open Tw Tw.Rf Go.Proofs.Tryz
open Go.RowKit
section
section
variable {C:Tc}{w w':World}{K:List SB}{st:Tw.RS}
variable{x:Tw.Val}
theorem RW.done(h:RW C w K st)(a:zG w w'){v:Value}(hv:VlR C w' K x v):RnP C w K (some x) st (.returned v) w':=
 ⟨v,[],rfl,Ay a,by rw[List.append_nil];exact h.grown a,nofun,λy b=>by cases b;rwa[List.append_nil]⟩
theorem RnP.pre{a:World}(g:zG w w'){r:Option Val}{e:Ending}(h:RnP C w' K r st e a):RnP C w K r st e a:=by
 have⟨v,b,c,d,f⟩:=h;exact⟨v,b,c,Ec g d,f⟩
theorem VlR.grown{p:Value}(h:VlR C w K x p)(b:zG w w'):VlR C w' K x p:=by
 have:=h.more [] (w':=w') λa=>zbG b a;rwa[List.append_nil]at this
theorem RW.ends(h:RW C w K st)(k:Int):RnP C w K none {st with fin:=k} (.returned (.pointer none)) (w.setCell ⟨C.br,3,none⟩ (vI k)):=
 ⟨_,[],rfl,Lib.grownBy_setCell _ _ _ _,by rw[List.append_nil];exact h.next (Lib.grownBy_setCell _ _ _ _) (Bu h.run _),λ_=>rfl,nofun⟩
theorem zrm(n:Int):-9223372036854775808<=wrap64 n/\wrap64 n<=9223372036854775807:=by
 unfold wrap64;omega
theorem RW.zua(h:RW C w K st){n:Int}(a :-9223372036854775808<=n/\n<=9223372036854775807):RnP C w K (some (.num n)) st (.returned (pT w.heap.size)) (w.alloc (.cells #[vU 105,vI n,.pointer none,.pointer none,.pointer none] 289)):=
 h.done (zwA _ _ none) (.num a (Ac w _))
theorem RW.zoq(h:RW C w K st)(q:Bool):RnP C w K (some (.Ak q)) st (.returned (pT w.heap.size)) (w.alloc (.cells #[vU 98,vI (if q then 1 else 0),.pointer none,.pointer none,.pointer none] 289)):=
 h.done (zwA _ _ none) (.Ak (Ac w _))
theorem zka(h:RW C w K st){c:Int}(l:c=19\/c=20\/c=21\/c=22\/c=23\/c=15){a b:Int}(k :-9223372036854775808<=b/\b<=9223372036854775807):
  Calls prog 137 #[pT C.br,vU (Gf c),vI a,vI b] w (RnP C w K (Dj c a b st).1 (Dj c a b st).2):=by
 have fz:w.frozen? ⟨C.br,3,none⟩=false:=eB _ _ _ _ _ h.run;have j:w.cell? ⟨C.br,3,none⟩=some (vI st.fin):=zcR h.run;by_cases g:c=19\/c=20\/c=21
 ·rcases g with rfl|rfl|rfl
  all_goals
   go_in;go_wp21;go_ret;exact h.zua (zrm _)
 rcases(show c=22\/c=23\/c=15 by omega)with rfl|rfl|rfl
 ·by_cases d:b=0
  ·subst d;go_in;go_wp21;go_ret;exact h.ends 1
  rw[show Dj 22 a b st=(some (.num (wrap64 (a.tdiv b))),st) by simp[Dj,d]];by_cases e:b = -1
  ·subst e;rw[Int.tdiv_neg,Int.tdiv_one];go_in;go_wp21;go_ret;exact h.zua (zrm _)
  ·go_in;go_wp21;go_ret;exact h.zua (zrm _)
 ·have f:Dj 23 a b st=(some (.Ak (decide (a<b))),st):=by simp[Dj]
  cases i:decide (a<b)
  all_goals
   rw[f,i];go_in;go_wp21;go_ret
   first
    |exact h.zoq true
    |exact h.zoq false
 ·by_cases e:a=b
  all_goals
   rw[show Dj 15 a b st=(some (.Ak (decide (a=b))),st) by simp[Dj]];go_in;go_wp21;go_ret
   first
    |exact h.zoq true
    |exact h.zoq false
end
end
section
variable{a b:World}{o:Option Nat}{K:List SB}
theorem zba{c:World}(h:a.grownBy b o)(k:b.grownBy c o):a.grownBy c o:=
 ⟨k.os.trans h.os,k.tape.trans h.tape,k.output.trans h.output,kB h.size k.size,λj d f=>(k.block j (aB d h.size) f).trans (h.block j d f)⟩
theorem EvA.ptr{p:Value}{e:Cr}{sc:Sc}(h:EvA K p e sc):∃q,p=.pointer q:=by cases h<;>exact⟨_,rfl⟩
theorem Hf(h:a.grownBy b o){g:Nat}(f:a.heap.size<=g)(j:Nat)(v:Value):a.grownBy (b.setCell (aD g j) v) o:=
 ⟨h.os,h.tape,h.output,by simpa using h.size,λk c d=>(aA b (aD g j) k _ (by simp;omega)).trans (h.block k c d)⟩
theorem RW.env{C:Tc}{w:World}{st:Tw.RS}(h:RW C w K st){i:Nat}{b:SB}(c:K[i]?=some b):∃p v,st.Al[i]?=some v/\w.cell? ⟨b.blk,0,none⟩=some (vI b.node)/\w.cell? ⟨b.blk,1,none⟩=some p/\w.cell? ⟨b.blk,2,none⟩=some b.up/\(v=none->p=.pointer none)/\∀x,v=some x->VlR C w K x p:=by
 have d:i<st.Al.length:=by rw[<-h.len];exact(zlE.1 c).1
 have⟨p,a,f,g⟩:=h.at' i b _ c (fA d);exact⟨p,_,fA d,zcR a,zcR a,zcR a,f,g⟩
def RAp(C:Tc)(f y:Val)(st:Tw.RS)(r:Option Val)(st':Tw.RS):Prop:=
 ∀(w:World) (K:List SB) (p q:Value),RW C w K st->VlR C w K f p->VlR C w K y q->Calls prog 136 #[.pointer (some ⟨C.br,0,none⟩),p,q] w (RnP C w K r st')
inductive Arm(C:Tc)(k:Nat)(x:RN)(sc:Sc)(e:Cr)(st:Tw.RS):Option Val->Tw.RS->Prop
 |name {y:List UInt8} {i:Nat} {r:Option Val} {st':Tw.RS} (hs:x.sort=120) (hb:x.binder=Cy sc y) (hl:Gw e y=some i) (hr:(∃v,st.Al[i]?=some (some v)/\r=some v/\st'=st)\/(st.Al[i]?=some none/\r=none/\st'={st with fin:=1})):Arm C k x sc e st r st'
 |int {tk:Tw.Tok} {v:Int} (hs:x.sort=105) (ht:C.body[x.first]?=some tk) (hv:Num (Bv C.s.data.toList tk.fr tk.to) v):Arm C k x sc e st (some (.num v)) st
 |Ak (q:Bool) (hs:x.sort=if q then 116 else 102):Arm C k x sc e st (some (.Ak q)) st
 |side (q:Bool) (hs:x.sort=if q then 50 else 49):Arm C k x sc e st (some (.side q)) st
 |bracket {r:Option Val} {st':Tw.RS} (hs:x.sort=103) (h:ROf C x.a sc e st r st'):Arm C k x sc e st r st'
 |fn {fr t0 bat n:Nat} {bn:List UInt8} {t:Tw.T} (hs:x.sort=70) (hn:k=n+Rf.T.sz t) (hp:Plc C (.fn fr t0 bn bat t) n sc):Arm C k x sc e st (some (.clo fr t0 bn bat t e)) st
 |Am {rc:Bool} {bn:List UInt8} {r1 r:Option Val} {st1 st2:Tw.RS} (hs:x.sort=if rc then 114 else 108) (hq:∀q∈sc,k<q.2) (h1:ROf C x.a (if rc then(bn,k)::sc else sc) (if rc then(bn,st.Al.length)::e else e) {st with Al:=st.Al++[none]} r1 st1) (h2:(r1=none/\r=none/\st2=st1)\/∃v,r1=some v/\ROf C x.b ((bn,k)::sc) ((bn,st.Al.length)::e) {st1 with Al:=st1.Al.set st.Al.length (some v)} r st2):Arm C k x sc e st r st2
 |cond {r1 r:Option Val} {st1 st2:Tw.RS} (hs:x.sort=73) (h1:ROf C x.a sc e st r1 st1) (h2:(r1=none/\r=none/\st2=st1)\/∃q,r1=some (.Ak q)/\ROf C (if q then x.b else x.c) sc e st1 r st2):Arm C k x sc e st r st2
 |two {r1 r2 r:Option Val} {st1 st2 st3:Tw.RS} (hs:x.sort=44\/x.sort=97\/∃s,x.sort=Gf s) (h1:ROf C x.a sc e st r1 st1) (h2:(r1=none/\r=none/\st3=st1)\/∃u,r1=some u/\ROf C x.b sc e st1 r2 st2/\((r2=none/\r=none/\st3=st2)\/∃v,r2=some v/\((x.sort=44/\r=some (.pair u v)/\st3=st2)\/(x.sort=97/\RAp C u v st2 r st3)\/∃s a b,(s=19\/s=20\/s=21\/s=22\/s=23\/s=15)/\x.sort=Gf s/\u=.num a/\v=.num b/\r=(Dj s a b st2).1/\st3=(Dj s a b st2).2))):Arm C k x sc e st r st3
section
variable {C:Tc}{w w':World}{K:List SB}{st:Tw.RS}{e:Tw.Cr}{sc:Tw.Rf.Sc}
variable{r:Option Tw.Val}
theorem RnP.thn{d:World}{K2:List SB}(j:w.grownBy w' (some C.br)){e:Ending}(h:RnP C w' (K++K2) r st e d):RnP C w K r st e d:=by
 have⟨v,f,g,i,c⟩:=h;rw[wA]at c;exact⟨v,K2++f,g,zba j i,c⟩
theorem Fl{k:Nat}{x:RN}(hk:C.N[k]?=some x){st':Tw.RS}(hA:Arm C k x sc e st r st'):ROf C k sc e st r st':=by
  intro w K p h he;have hklt:=(zlE.1 hk).1;obtain⟨-,-,t2,-,-⟩:=h.rt.cells;obtain⟨g,cap,hnv,d0,d1,d2,d3,d4,d5,d6,d7,d8,-⟩:=h.rt.node hk;have a0:w.cell? ⟨C.br,0,none⟩=some (pT C.bt):=zcR h.run;have hkl:(k:Int)<(C.N.length:Int):=oM;have hk0:¬(k:Int)<0:=oM;rw[hnv]at t2;obtain⟨so,hso⟩:∃so:Int,(x.sort:Int)=so:=⟨_,rfl⟩;rw[hso]at d0;obtain⟨pq,rfl⟩:=he.ptr;have HSO:=hso;have HA:=hA;go_in;go_upto_region 2 with fail;have g1:=zwA w (.cells #[vU so,vI x.a,vI x.b,vI x.c,vI x.first,vI x.last,vI x.name,vI x.binder,.bool false] 276) none;have n1:=Ac w (.cells #[vU so,vI x.a,vI x.b,vI x.c,vI x.first,vI x.last,vI x.name,vI x.binder,.bool false] 276);generalize w.alloc (.cells #[vU so,vI x.a,vI x.b,vI x.c,vI x.first,vI x.last,vI x.name,vI x.binder,.bool false] 276)=w1 at g1 n1 ⊢;obtain⟨nb,hnb⟩:∃nb,w.heap.size=nb:=⟨_,rfl⟩;rw[hnb]at n1;rw[hnb];have S1:=h.grown g1;have ML:Hid (∀W:World,W.heap[nb]?=w1.heap[nb]? -> W.cell? (aD nb 0)=some (vU so)/\W.cell? (aD nb 1)=some (vI x.a)/\W.cell? (aD nb 2)=some (vI x.b)/\W.cell? (aD nb 3)=some (vI x.c)):=bV λW hW=>by
    rw[n1]at hW;refine⟨?_,?_,?_,?_⟩<;>(rw[mB _ _ _ _ _ _ hW];rfl)
  have m0:=(ML.o w1 rfl).1;have hA:=HA;cases hA with
  |@name y i _ _ hs hb hl hr=>
    have HR:=hr;obtain rfl:so=120:=(by have:=HSO;omega);go_upto_region 4 with fail;go_loopg[2] e.length (λm pv wr=>∃e' sc',m=e'.length/\Hid (zG w1 wr)/\Hid (EvA K pv e' sc')/\Hid (Gw e' y=some i)/\Hid (x.binder=Cy sc' y))
    case atStart=>exact⟨e,sc,rfl,bV (Aa _),he,hl,hb⟩
    case round=>
      have⟨e',sc',hm,GR,HE',HL',HB'⟩:=hrel;have hE:=HE'.o;cases hE with
      |nil=>have:=HL'.o;simp[Gw]at this
      |@cons b e2 sc2 j z hb hj hE2=>
        have SR:=S1.grown GR.o;have⟨pv,v,hv,c0,c1,c2,hn,hx⟩:=SR.env hb;have m7:wr.cell? (aD nb 7)=some (vI x.binder):=zcR (zbG GR.o n1);go_wp21;go_quiet (fail);obtain⟨W,hW⟩:∃W,wr.drewN nq=W:=⟨_,rfl⟩;have GW:Hid (zG w1 W):=bV (Ab GR.o (by rw[<-hW];exact Cc wr nq));rw[hW];have SW:=S1.grown GW.o;have⟨pv,v,hv,c0,c1,c2,hn,hx⟩:=SW.env hb;by_cases hz:z=y
        · have ej:j=i:=by have:=HL'.o;simpa[Gw,hz]using this
          have eb:x.binder=(b.node:Int):=(by have:=HB'.o;simpa[Cy,hz]using this);have hnb:((b.node:Int) != x.binder)=false:=(by simp[eb]);subst ej;cases v with
          |none=>
            obtain rfl:=hn rfl;have fz:W.frozen? ⟨C.br,3,none⟩=false:=eB _ _ _ _ _ SW.run;have cz:W.cell? ⟨C.br,3,none⟩=some (vI st.fin):=zcR SW.run;go_wp21;go_ret;have hr:=HR;rw[hv]at hr;obtain⟨rfl,rfl⟩:r=none/\st'={st with fin:=1}:=(by simpa using hr);exact(SW.ends 1).pre (Ab g1 GW.o)
          |some u=>
            obtain⟨bu,rfl⟩:=(hx u rfl).blk;go_wp21;go_ret;have hr:=HR;rw[hv]at hr;obtain⟨rfl,rfl⟩:r=some u/\st'=st:=(by simpa using hr);exact(SW.done (Aa _) (hx u rfl)).pre (Ab g1 GW.o)
        · have hl2:Gw e2 y=some i:=by have:=HL'.o;simpa[Gw,hz]using this
          have hb2:x.binder=Cy sc2 y:=(by have:=HB'.o;simpa[Cy,hz]using this);have⟨b',_,hb',q,hq,hq2⟩:=zqu hE2 hl2;have hlt:=hj q hq;have hnb:((b.node:Int) != x.binder)=true:=(by rw[hb2,hb'];simp;omega);go_wp21;go_roundg (gk-1)
          case measure=>simp at hm;omega
          case rel=>exact⟨e2,sc2,by simp at hm;omega,GW,hE2,hl2,hb2⟩
  |@int tk v hs ht hv=>
    obtain rfl:so=105:=(by have:=HSO;omega);have⟨⟨pt,ct,htv⟩,htc⟩:=Hr S1.rt.Eh;obtain⟨gt,cp,e2,k0,-,-⟩:=htc _ tk ht;obtain⟨-,c1,-,-,-⟩:=S1.rt.cells;rw[e2]at c1;have a0:w1.cell? ⟨C.br,0,none⟩=some (pT C.bt):=zcR S1.run;have m4:w1.cell? (aD nb 4)=some (vI x.first):=zcR n1;have hfl:(x.first:Int)<(C.body.length:Int):=(by have:=(zlE.1 ht).1;omega);have D1:Hid (w1.grownBy w1.drew none):=Ad (Aa _);have HVR:=hv.range;go_wp21;go_region_held3 (λW=>W.cell? ⟨C.br,0,none⟩=some (pT C.bt)/\W.cell? ⟨C.bt,1,none⟩=some (sL gt C.body.length cp)/\W.cell? (aD nb 4)=some (vI x.first)/\W.cell? ⟨gt,x.first*3,none⟩=some (.string ⟨(Bv C.s.data.toList tk.fr tk.to).toArray⟩)) (go_keep)
      (first
        |(go_at_call 135;refine(zhc (s:=⟨(Bv C.s.data.toList tk.fr tk.to).toArray⟩) (v:=v) (by simpa using hv) _).mono ?_;rintro e2 w2 ⟨rfl,rfl⟩;clear hv))
    go_wp21;go_ret;exact((S1.grown D1.o).zua HVR).pre (Ab g1 D1.o)
  |Ak q hs=>
    have e:so=if q then 116 else 102:=(by have:=HSO;rw[hs]at this;cases q<;>simpa using this.symm);cases q
    all_goals
      simp only[xA,if_true,if_false]at e;subst e;go_wp21;go_ret
      first
        |exact(S1.zoq true).pre g1
        |exact(S1.zoq false).pre g1
  |side q hs=>
    have e:so=if q then 50 else 49:=(by have:=HSO;rw[hs]at this;cases q<;>simpa using this.symm);cases q
    all_goals
      simp only[xA,if_true,if_false]at e;subst e;go_wp21;go_ret
      first
        |exact(S1.done (zwA _ _ none) (.side (q:=true) (Ac w1 _))).pre g1
        |exact(S1.done (zwA _ _ none) (.side (q:=false) (Ac w1 _))).pre g1
  |bracket hs h1=>
    obtain rfl:so=103:=(by have:=HSO;omega);obtain⟨-,m1,-,-⟩:=ML.o w1 rfl;go_wp21;go_call h1 _ _ _ S1 he as e2 w2 hp;obtain⟨v,K2,rfl,hp⟩:=hp;go_wp21;go_ret;exact RnP.pre g1 ⟨v,K2,rfl,hp⟩
  |fn hs hn hp=>
    obtain rfl:so=70:=(by have:=HSO;omega);go_wp21;go_ret;refine(S1.done (zwA _ _ none) ?_).pre g1
    have:=hn;subst this;exact .clo (Ac w1 _) hp he
  |@Am rc bn r1 _ st1 _ hs hq h1 h2=>
    have HQ:=hq;have HLEN:=S1.len;cases rc
    case' false=>obtain rfl:so=108:=by have:=HSO;rw[hs]at this;simpa using this.symm
    case' true=>
      obtain rfl:so=114:=(by have:=HSO;rw[hs]at this;simpa using this.symm);have FT:=znL 0
    all_goals
      simp only[xA,if_true,if_false]at h1;go_upto_region 26 with fail;have g2:=zwA w1 (.cells #[vI k,.pointer none,.pointer pq] 287) none;have n2:=Ac w1 (.cells #[vI k,.pointer none,.pointer pq] 287);have lnb:=(zgE.1 n1).1;generalize w1.alloc (.cells #[vI k,.pointer none,.pointer pq] 287)=w2 at g2 n2 ⊢;obtain⟨eb,heb⟩:∃eb,w1.heap.size=eb:=⟨_,rfl⟩;rw[heb]at n2 lnb;rw[heb];have S2:=(S1.grown g2).push (b:=⟨eb,k,.pointer pq⟩) (v:=none) n2 (λq hq=>by have:=S1.lt q hq;simp only;omega) (λ_=>rfl) nofun;have E2:=bV (he.more [⟨eb,k,.pointer pq⟩]);have hix:(K++[⟨eb,k,.pointer pq⟩])[st.Al.length]?=some (⟨eb,k,.pointer pq⟩:SB):=(by rw[<-HLEN];simp);have NE:Hid (EvA (K++[⟨eb,k,.pointer pq⟩]) (pT eb) ((bn,st.Al.length)::e) ((bn,k)::sc)):=bV (.cons (b:=⟨eb,k,.pointer pq⟩) bn hix HQ E2.o);have G2:=bV (Ab g1 g2);have hnb2:=g2.block nb (zgE.1 n1).1 sM;obtain⟨m0',m1,-,-⟩:=ML.o w2 hnb2;have N2:=bV (hnb2.trans n1);have leb:w.heap.size<=eb:=(by rw[<-heb];exact g1.size);go_wp21
      first
        |(have _:=FT;refine(h1 _ _ _ S2 NE.o).mono ?_)
        |refine(h1 _ _ _ S2 E2.o).mono ?_
      rintro e2 w3 ⟨v,K2,rfl,hg3,hw3,hn3,hv3⟩;have G3:=bV (Ec G2.o hg3);have NB3:=bV (S2.Aq hg3 dZ N2.o);have S3:=bV hw3;rcases h2 with⟨rfl,rfl,rfl⟩|⟨u,rfl,h4⟩
      · obtain rfl:=hn3 rfl
        go_wp21;go_ret;exact⟨_,[⟨eb,k,.pointer pq⟩]++K2,rfl,G3.o,by rw[<-wA];exact S3.o,λ_=>rfl,nofun⟩
      · have hv:=hv3 _ rfl
        obtain⟨bu,rfl⟩:=hv.blk;have S3':=S3.o;rw[wA,List.singleton_append]at S3' hv;have hl1:K.length<st1.Al.length:=(by rw[<-S3'.len];simp);obtain⟨p5,a5,-⟩:=S3'.at' K.length ⟨eb,k,.pointer pq⟩ _ sM (fA hl1);have fz:w3.frozen? (aD eb 1)=false:=eB _ _ _ _ _ a5;have cz:w3.cell? (aD eb 1)=some p5:=zcR a5;have S4:=bV (S3'.put hv);have NE4:=NE.o.more K2;rw[wA,List.singleton_append]at NE4;have NE4:=bV NE4;have H4:=bV h4;have G4:=bV (Hf G3.o leb 1 (pT bu));obtain⟨-,-,m2,-⟩:=ML.o (w3.setCell (aD eb 1) (pT bu)) ((aA w3 (aD eb 1) nb _ (by simp;omega)).trans (NB3.o.trans n1.symm));rw[HLEN]at S4;go_wp21;go_call H4.o _ _ _ S4.o NE4.o as e5 w5 ⟨v5,K5,rfl,hp⟩;go_wp21;go_ret;exact RnP.thn (K2:=⟨eb,k,.pointer pq⟩::K2) G4.o ⟨v5,K5,rfl,hp⟩
  |@cond r1 _ st1 _ hs h1 h2=>
    obtain rfl:so=73:=(by have:=HSO;omega);obtain⟨-,m1,-,-⟩:=ML.o w1 rfl;go_wp21;go_call h1 _ _ _ S1 he as e2 w2 ⟨v,K2,rfl,hg2,hw2,hn2,hv2⟩;obtain⟨-,-,m2,m3⟩:=ML.o w2 ((S1.Aq hg2 dZ n1).trans n1.symm);have G2:=bV (Ec g1 hg2);have E2:=bV (he.more K2);rcases h2 with⟨rfl,rfl,rfl⟩|⟨q,rfl,h3⟩
    · obtain rfl:=hn2 rfl
      go_wp21;go_ret;exact⟨_,K2,rfl,G2.o,hw2,λ_=>rfl,nofun⟩
    · have hv:=hv2 _ rfl
      have H3:=bV h3;cases hv with
      |@Ak bv q hb=>
      have c1:w2.cell? (aD bv 1)=some (vI (if q then 1 else 0)):=zcR hb;cases q
      all_goals
        simp only[xA,if_true,if_false]at c1;go_wp21;go_call H3.o _ _ _ hw2 E2.o as e3 w3 ⟨v3,K3,rfl,hp⟩;go_wp21;go_ret;exact RnP.thn G2.o ⟨v3,K3,rfl,hp⟩
  |@two r1 r2 _ st1 st2 _ hs h1 h2=>
    have hso:so=44\/so=97\/so=43\/so=45\/so=42\/so=47\/so=60\/so=61:=by
      have:=HSO;rcases hs with hs|hs|⟨s,hs⟩
      · omega
      · omega
      · rw[hs]at this
        unfold Gf at this
        repeat' split at this
        all_goals omega
    obtain⟨b1,b2,b3,b4,b5,b6,b7,b8,b9,b10,b11⟩:(so==120)=false/\(so==105)=false/\(so==116)=false/\(so==102)=false/\(so==49)=false/\(so==50)=false/\(so==103)=false/\(so==70)=false/\(so==108)=false/\(so==114)=false/\(so==73)=false:=by
      simp only[beq_eq_false_iff_ne];omega
    obtain⟨-,m1,-,-⟩:=ML.o w1 rfl;have BSO:=bV hso;go_wp21;go_call h1 _ _ _ S1 he as e2 w2 ⟨v,K2,rfl,hg2,hw2,hn2,hv2⟩;have N2:=bV (S1.Aq hg2 dZ n1);obtain⟨-,-,m2,-⟩:=ML.o w2 (N2.o.trans n1.symm);have G2:=bV (Ec g1 hg2);have E2:=bV (he.more K2);rcases h2 with⟨rfl,rfl,rfl⟩|⟨u,rfl,h3,h4⟩
    · obtain rfl:=hn2 rfl
      go_wp21;go_ret;exact⟨_,K2,rfl,G2.o,hw2,λ_=>rfl,nofun⟩
    have hvu:=hv2 _ rfl;obtain⟨bu,rfl⟩:=hvu.blk;have VU:=bV hvu;have H4:=bV h4;go_wp21;go_call h3 _ _ _ hw2 E2.o as e3 w3 ⟨v,K3,rfl,hg3,hw3,hn3,hv3⟩;have N3:=bV (hw2.Aq hg3 dZ N2.o);obtain⟨m0,-,-,-⟩:=ML.o w3 (N3.o.trans n1.symm);have G3:=bV (zba G2.o hg3);have U3:=bV (hw2.val hg3 K3 VU.o);have S3:=bV hw3;rcases H4.o with⟨rfl,rfl,rfl⟩|⟨y,rfl,h5⟩
    · obtain rfl:=hn3 rfl
      go_wp21;go_ret;exact⟨_,K2++K3,rfl,G3.o,by rw[<-wA];exact S3.o,λ_=>rfl,nofun⟩
    have hvy:=hv3 _ rfl;obtain⟨by',rfl⟩:=hvy.blk;have V3:=bV hvy;have H5:=bV h5;rcases H5.o with⟨hs,rfl,rfl⟩|⟨hs,hap⟩|⟨s,a,b,hsg,hs,rfl,rfl,rfl,rfl⟩
    · obtain rfl:so=44:=by have:=HSO;omega
      go_wp21;go_ret;have ga:=zwA w3 (.cells #[vU 44,vI 0,pT bu,pT by',.pointer none] 289) none;refine RnP.thn (K2:=K2++K3) G3.o ?_;rw[<-wA];exact S3.o.done ga (.pair (Ac w3 _) (U3.o.grown ga) (V3.o.grown ga))
    · obtain rfl:so=97:=by have:=HSO;omega
      have HAP:=bV hap;go_wp21;go_call HAP.o _ _ _ _ S3.o U3.o V3.o as e4 w4 ⟨v4,K4,rfl,hp⟩;go_wp21;go_ret;refine RnP.thn (K2:=K2++K3) G3.o ?_;rw[<-wA];exact⟨v4,K4,rfl,hp⟩
    · have hq:(so==44)=false/\(so==97)=false:=by
        have:=HSO;rw[hs]at this;unfold Gf at this;simp only[beq_eq_false_iff_ne]
        repeat' split at this
        all_goals omega
      have⟨b12,b13⟩:=hq;have HSG:=bV hsg;have HS:Hid (so=(Gf s:Int)):=(by rw[<-hs];exact HSO.symm);have hu:=U3.o;have hv:=V3.o;cases hu with
      |num hru hbu=>
      cases hv with
      |num hrv hbv=>
      have cu:w3.cell? (aD bu 1)=some (vI a):=zcR hbu;have cv:w3.cell? (aD by' 1)=some (vI b):=zcR hbv;have D3:Hid (w3.grownBy w3.drew none):=Ad (Aa _);have S4:=bV (S3.o.grown D3.o);have HU:=bV hbu;have HRV:=bV hrv;go_wp21;go_region_held3 (λW=>W.cell? (aD nb 0)=some (vU so)/\W.cell? (aD bu 1)=some (vI a)/\W.cell? (aD by' 1)=some (vI b)) (go_keep)
        (first
          |(go_at_call 137;rw[HS.o];refine(zka S4.o HSG.o HRV.o).mono ?_;rintro e4 w4 ⟨v4,K4,rfl,hg4,hp4⟩;have N4:=S4.o.Aq hg4 dZ (zbG D3.o N3.o);have U4:=S4.o.Aq hg4 dZ (zbG D3.o HU.o);have V4:=S4.o.Aq hg4 dZ (zbG D3.o hbv);have n4:w4.cell? (aD nb 0)=some (vU so):=zcR N4;have u4:w4.cell? (aD bu 1)=some (vI a):=zcR U4;have v4':w4.cell? (aD by' 1)=some (vI b):=zcR V4;have HP:RnP C w3 (K++K2++K3) (Dj s a b st2).1 (Dj s a b st2).2 (.returned v4) w4:=⟨v4,K4,rfl,Ec D3.o hg4,hp4⟩;clear N4 U4 V4 hg4 hp4 HSG))
      go_wp21;go_ret;refine RnP.thn (K2:=K2++K3) G3.o ?_;rw[<-wA];exact HP
end
end
section
section
variable {C:Tc}{st:Tw.RS}
theorem zqv(a:Bool)(x y:Val):RAp C (.side a) (.pair x y) st (some (if a then y else x)) st:=by
 intro w K p q h d e;cases d with
 |@side b _ hb=>
 cases e with
 |@pair b2 _ _ p q hb2 h1 h2=>
 have c:w.cell? (aD b 0)=some (vU (if a then 50 else 49)):=zcR hb;have i:w.cell? (aD b2 2)=some p:=zcR hb2;have j:w.cell? (aD b2 3)=some q:=zcR hb2;obtain⟨f,rfl⟩:=h1.blk;obtain⟨g,rfl⟩:=h2.blk;cases a
 all_goals
  simp only[xA,if_true,if_false]at c ⊢;go_in;go_wp21;go_ret
  first
   |exact h.done (Aa _) h1
   |exact h.done (Aa _) h2
theorem zlj{fr t0 bat:Nat}{bn:zU}{t:Tw.T}{env:Cr}{y:Val}{r:Option Val}{st':Tw.RS}(hm:C.most<=3000)(hs:st.steps<=C.most)
    (h1:st.steps=C.most->r=none/\st'={st with fin:=2}) (h2:st.steps≠C.most->∀n sc,Plc C (.fn fr t0 bn bat t) n sc->ROf C ((n+Rf.T.sz t-1:Nat):Int) ((bn,n+Rf.T.sz t)::sc) ((bn,st.Al.length)::env) {st with Al:=st.Al++[some y],steps:=st.steps+1} r st') :
    RAp C (.clo fr t0 bn bat t env) y st r st':=by
  intro w K p q h hp hq;have HH:=h;cases hp with
  |@clo b _ _ _ n _ _ _ sc pe hb hpl he=>
  obtain⟨bq,rfl⟩:=hq.blk;obtain⟨pq,rfl⟩:=he.ptr;have c0:w.cell? (aD b 0)=some (vU 70):=zcR hb;have s1:w.cell? ⟨C.br,1,none⟩=some (vI st.steps):=zcR h.run;have s2:w.cell? ⟨C.br,2,none⟩=some (vI C.most):=zcR h.run;have s3:w.cell? ⟨C.br,3,none⟩=some (vI st.fin):=zcR h.run;have f3:w.frozen? ⟨C.br,3,none⟩=false:=eB _ _ _ _ _ h.run;have HQ:=hq;by_cases hst:st.steps=C.most
  · have hge:(C.most:Int)<=(st.steps:Int):=oM
    obtain⟨rfl,rfl⟩:=h1 hst;go_in;go_wp21;go_quiet (fail);obtain⟨W,hW⟩:∃W,w.drewN nq=W:=⟨_,rfl⟩;have GW:zG w W:=(by rw[<-hW];exact Cc w nq);rw[hW];have SW:=HH.grown GW;have s3:W.cell? ⟨C.br,3,none⟩=some (vI st.fin):=zcR SW.run;have f3:W.frozen? ⟨C.br,3,none⟩=false:=eB _ _ _ _ _ SW.run;go_wp21;go_ret;exact(SW.ends 2).pre GW
  · have hge:¬(C.most:Int)<=(st.steps:Int):=oM
    go_in;go_wp21;go_quiet (fail);obtain⟨W,hW⟩:∃W,w.drewN nq=W:=⟨_,rfl⟩;have GW:zG w W:=(by rw[<-hW];exact Cc w nq);rw[hW];have SW:=HH.grown GW;have s1':W.cell? ⟨C.br,1,none⟩=some (vI st.steps):=zcR SW.run;have f1':W.frozen? ⟨C.br,1,none⟩=false:=eB _ _ _ _ _ SW.run;go_upto_region 10 with fail;have G2:w.grownBy (W.setCell ⟨C.br,1,none⟩ (vI ((st.steps:Int)+1))) (some C.br):=Ec GW (Lib.grownBy_setCell _ _ _ _);have S2:RW C (W.setCell ⟨C.br,1,none⟩ (vI ((st.steps:Int)+1))) K {st with steps:=st.steps+1}:=SW.next (Lib.grownBy_setCell _ _ _ _) (Bu SW.run _);obtain⟨W2,hW2⟩:∃W2,W.setCell ⟨C.br,1,none⟩ (vI ((st.steps:Int)+1))=W2:=⟨_,rfl⟩;rw[hW2]at G2 S2;rw[hW2];have hk:=hpl.run.last (m:=n+Rf.T.sz t) (by rw[Af]);have hklt:=(zlE.1 hk).1;obtain⟨-,-,t2,-,-⟩:=S2.rt.cells;obtain⟨g,cap,hnv,-,d1,-⟩:=S2.rt.node hk;rw[hnv]at t2;have a0:W2.cell? ⟨C.br,0,none⟩=some (pT C.bt):=zcR S2.run;have B2:=HH.Aq G2 dZ hb;have c1:W2.cell? (aD b 1)=some (vI (n+Rf.T.sz t:Nat)):=zcR B2;have c4:W2.cell? (aD b 4)=some (.pointer pq):=zcR B2;obtain⟨k,hkk⟩:∃k,n+Rf.T.sz t=k:=⟨_,rfl⟩;obtain⟨ka,hka⟩:∃ka:Nat,k-1=ka:=⟨_,rfl⟩;have A2:W2.grownBy (W2.drew.alloc (.cells #[vI k,pT bq,.pointer pq] 287)) none:=(Aj (Ad (Aa _)) _);have Q2:VlR C W2 K y (pT bq):=(by have:=HH.val G2 [] HQ;rwa[List.append_nil]at this);have R3:=(S2.grown A2).push (b:=⟨W2.heap.size,k,.pointer pq⟩) (v:=some y) (Ac W2.drew _) (λq hq=>S2.lt q hq) nofun (λx hx=>by cases hx;exact Q2.grown A2);have hq2:∀q∈sc,k<q.2:=λq hq=>(by have:=hpl.up q hq;simp[Rf.T.sz]at this;omega);have NE:EvA (K++[⟨W2.heap.size,k,.pointer pq⟩]) (pT W2.heap.size) ((bn,st.Al.length)::env) ((bn,k)::sc):=(.cons (b:=⟨W2.heap.size,k,.pointer pq⟩) bn (by rw[<-HH.len];simp) hq2 (he.more _));have O2:=h2 hst n sc hpl;rw[hkk]at c1 hklt d1 O2 hk B2;rw[hka]at O2 d1 hk;have ne:∀ {j:Nat},j<W2.heap.size->j≠W2.heap.size:=λh=>Nat.ne_of_lt h;have hkl:(k:Int)<(C.N.length:Int):=oM;have B3:=zbG A2 B2;have G3:=zba G2 (Ay A2);go_region_held3 (λW=>W.cell? ⟨C.br,0,none⟩=some (pT C.bt)/\W.cell? ⟨C.bt,2,none⟩=some (sL g C.N.length cap)/\W.cell? (aD b 1)=some (vI k)/\W.cell? (aD b 4)=some (.pointer pq)/\W.cell? (aD g (k*9+1))=some (vI ka)) (go_keep)
      (first
        |(go_at_call 74;refine(O2 _ _ _ R3 NE).mono ?_;rintro e3 w3 ⟨v3,K3,rfl,hg3,hp3⟩;have e0:w3.cell? ⟨C.br,0,none⟩=some (pT C.bt):=zcR hp3.1.run;obtain⟨-,-,e2,-,-⟩:=hp3.1.rt.cells;obtain⟨g',cap',e5,-,e3,-⟩:=hp3.1.rt.node hk;rw[hnv]at e2 e5;cases e5;have B4:=R3.Aq hg3 dZ B3;have e1:w3.cell? (aD b 1)=some (vI k):=zcR B4;have e4:w3.cell? (aD b 4)=some (.pointer pq):=zcR B4;have HP:RnP C w K r st' (.returned v3) w3:=(RnP.thn (K2:=[⟨W2.heap.size,k,.pointer pq⟩]) G3 ⟨v3,K3,rfl,hg3,hp3⟩);clear B4 hg3 hp3 O2))
    go_wp21;go_ret;exact HP
end
end
end
section
open Tw Tw.Rf
open Go.RowKit
section
section
variable {C:Tc}
theorem ROf.eqk{k k':Int}{sc:Sc}{e:Cr}{st st':Tw.RS}{r:Option Val}(h:ROf C k sc e st r st')(a:k'=k):ROf C k' sc e st r st':=by subst a;exact h
theorem Tw.Rns.steps{a:Nat}{t:Tw.T}{e:Cr}{st st':Tw.RS}{r:Option Val}(h:Rns a t e st r st'):st.steps<=a->st'.steps<=a:=by
 have d:∀ {s b c:Int} {st:Tw.RS},(Dj s b c st).2.steps=st.steps:=λ{s b c st}=>by
  unfold Dj
  repeat' split
  all_goals rfl
 induction h with
 |binary _ _ i1 i2=>exact λh=>by rw[d];exact i2 (i1 h)
 |call _ _ hs _ i1 i2 i3=>exact λh=>i3 (by have:=i2 (i1 h);simp only;omega)
 |Am _ _ i1 i2=>exact λh=>i2 (i1 h)
 |cond _ _ i1 i2|right _ _ _ i1 i2|pair _ _ i1 i2|part _ _ i1 i2|zrq _ _ _ i1 i2=>exact λh=>i2 (i1 h)
 |bracket _ i|letE _ i|zr5 _ i|left _ _ i=>exact i
 |_=>exact id
def Tw.T.so:Tw.T->Nat
 |.pair .. =>44
 |.call .. =>97
 |.binary _ _ s _ _=>Gf s
 |_=>0
theorem Plc.two{t l r:Tw.T}{n:Nat}{sc:Sc}(P:Plc C t n sc)(b:t.two=some (l,r)):Plc C l n sc/\Plc C r (n+Rf.T.sz l) sc/\((n+Rf.T.sz t-1:Nat):Int)=(n+Rf.T.sz l+Rf.T.sz r:Nat)/\(t.so=44\/t.so=97\/∃s,t.so=Gf s)/\∃x,C.N[n+Rf.T.sz l+Rf.T.sz r]?=some x/\x.sort=t.so/\x.a=(n+Rf.T.sz l-1:Nat)/\x.b=(n+Rf.T.sz l+Rf.T.sz r-1:Nat):=by
 obtain⟨R,S,I,U⟩:=P;have c:=Rf.T.Vb l;have d:=Rf.T.Vb r;cases t<;>simp only[Tw.T.two,zsI,zpI,reduceCtorEq]at b
 all_goals
  obtain⟨rfl,rfl⟩:=b;rw[fill]at R;simp only[Rf.T.sz]at U ⊢;refine⟨⟨R.left.left,?_,I.1,λq a=>by have:=U q a;omega⟩,⟨R.left.right (by rw[Af]),?_,I.2,λq a=>by have:=U q a;omega⟩,oM,?_,_,R.last (by rw[eA,Af,Af];omega),rfl,rfl,rfl⟩
  all_goals first
   |exact S.1
   |exact S.2
   |exact S.2.1
   |exact S.2.2
   |exact .inl rfl
   |exact .inr (.inl rfl)
   |exact .inr (.inr ⟨_,rfl⟩)
theorem Plc.Am{fr t0 bat n:Nat}{rc:Bool}{bn:zU}{d b:Tw.T}{sc:Sc}(P:Plc C (.Am fr t0 rc bn bat d b) n sc):((n+Rf.T.sz (.Am fr t0 rc bn bat d b)-1:Nat):Int)=(n+Rf.T.sz d+Rf.T.sz b:Nat)/\Plc C d n (if rc then(bn,n+Rf.T.sz d+Rf.T.sz b)::sc else sc)/\Plc C b (n+Rf.T.sz d) ((bn,n+Rf.T.sz d+Rf.T.sz b)::sc)/\(∀q∈sc,n+Rf.T.sz d+Rf.T.sz b<q.2)/\∃x,C.N[n+Rf.T.sz d+Rf.T.sz b]?=some x/\(x.sort=if rc then 114 else 108)/\x.a=(n+Rf.T.sz d-1:Nat)/\x.b=(n+Rf.T.sz d+Rf.T.sz b-1:Nat):=by
 obtain⟨R,S,I,U⟩:=P;rw[fill]at R;simp only[Rf.T.sz]at U ⊢;have c:=Rf.T.Vb b;refine⟨oM,⟨R.left.left,S.1,I.1,λq a=>?_⟩,⟨R.left.right (by rw[Af]),S.2,I.2,λq a=>?_⟩,λq a=>by have:=U q a;omega,_,R.last (by rw[eA,Af,Af];omega),rfl,rfl,rfl⟩
 ·cases rc
  ·have:=U q a;omega
  ·rcases zmC.1 a with rfl|a
   ·simp only;omega
   ·have:=U q a;omega
 ·rcases zmC.1 a with rfl|a
  ·simp only;omega
  ·have:=U q a;omega
theorem Plc.cond{fr t0 n:Nat}{c t f:Tw.T}{sc:Sc}(P:Plc C (.cond fr t0 c t f) n sc):((n+Rf.T.sz (.cond fr t0 c t f)-1:Nat):Int)=(n+Rf.T.sz c+Rf.T.sz t+Rf.T.sz f:Nat)/\Plc C c n sc/\Plc C t (n+Rf.T.sz c) sc/\Plc C f (n+Rf.T.sz c+Rf.T.sz t) sc/\∃x,C.N[n+Rf.T.sz c+Rf.T.sz t+Rf.T.sz f]?=some x/\x.sort=73/\x.a=(n+Rf.T.sz c-1:Nat)/\x.b=(n+Rf.T.sz c+Rf.T.sz t-1:Nat)/\x.c=(n+Rf.T.sz c+Rf.T.sz t+Rf.T.sz f-1:Nat):=by
 obtain⟨R,S,I,U⟩:=P;rw[fill]at R;simp only[Rf.T.sz]at U ⊢;exact⟨oM,⟨R.left.left.left,S.1,I.1,λq a=>by have:=U q a;omega⟩,⟨R.left.left.right (by rw[Af]),S.2.1,I.2.1,λq a=>by have:=U q a;omega⟩,⟨R.left.right (by rw[eA,Af,Af];omega),S.2.2,I.2.2,λq a=>by have:=U q a;omega⟩,_,R.last (by rw[eA,eA,Af,Af,Af];omega),rfl,rfl,rfl,rfl⟩
theorem zti(E:C.most<=3000){t:Tw.T}{e:Cr}{st st':Tw.RS}{r:Option Val}(h:Rns C.most t e st r st'):st.steps<=C.most->∀n sc,Plc C t n sc->ROf C ((n+Rf.T.sz t-1:Nat):Int) sc e st r st':=by
 induction h with
 |@name fr t0 A e st i v h z=>
  intro _ n sc P;have J:=P.run 0 _ rfl;exact(Fl J (.name (y:=A) rfl rfl h (.inl ⟨v,z,rfl,rfl⟩))).eqk (by simp[Rf.T.sz])
 |@zrz fr t0 A e st i h z=>
  intro _ n sc P;exact(Fl (P.run 0 _ rfl) (.name (y:=A) rfl rfl h (.inr ⟨z,rfl,rfl⟩))).eqk (by simp[Rf.T.sz])
 |int=>
  intro _ n sc P;obtain⟨tk,G,z⟩:=P.int;exact(Fl (P.run 0 _ rfl) (.int rfl G z)).eqk (by simp[Rf.T.sz])
 |@Ak _ _ b=>
  intro _ n sc P;exact(Fl (P.run 0 _ rfl) (.Ak b rfl)).eqk (by simp[Rf.T.sz])
 |@side _ _ b=>
  intro _ n sc P;exact(Fl (P.run 0 _ rfl) (.side b rfl)).eqk (by simp[Rf.T.sz])
 |@fn fr t0 bat bn b=>
  intro _ n sc P;exact(Fl (P.run.last (m:=n+Rf.T.sz b) (by rw[Af])) (.fn rfl rfl P)).eqk (by simp[Rf.T.sz])
 |@bracket fr t0 i e st st1 r h ih=>
  intro g n sc P;have R:=P.run;rw[fill]at R;have U:=P.up;simp only[Rf.T.sz]at U;exact(Fl (R.last (m:=n+Rf.T.sz i) (by rw[Af])) (.bracket rfl (ih g n sc ⟨R.left,P.sg,P.int,λB D=>by have:=U B D;omega⟩))).eqk (by simp[Rf.T.sz])
 |@letE fr t0 bat rc bn d b e st st1 h ih=>
  intro g n sc P;obtain⟨o,k,w,Q,A,p,j,q,x⟩:=P.Am;exact(Fl p (.Am (rc:=rc) (bn:=bn) j Q (by rw[q];exact ih g n _ k) (.inl ⟨rfl,rfl,rfl⟩))).eqk o
 |@Am fr t0 bat rc bn d b e st st1 st2 v r h z ih i2=>
  intro g n sc P;obtain⟨o,k,w,Q,A,p,j,q,x⟩:=P.Am;exact(Fl p (.Am (rc:=rc) (bn:=bn) j Q (by rw[q];exact ih g n _ k) (.inr ⟨v,rfl,by rw[x];exact i2 (h.steps g) _ _ w⟩))).eqk o
 |@zr5 fr t0 c t f e st st1 h ih=>
  intro g n sc P;obtain⟨o,k,-,-,A,p,j,q,-⟩:=P.cond;exact(Fl p (.cond j (by rw[q];exact ih g n _ k) (.inl ⟨rfl,rfl,rfl⟩))).eqk o
 |@cond fr t0 c t f e st st1 st2 B r h z ih i2=>
  intro g n sc P;obtain⟨o,k,w,F,A,p,j,q,x,L⟩:=P.cond;refine(Fl p (.cond j (by rw[q];exact ih g n _ k) (.inr ⟨B,rfl,?_⟩))).eqk o;rw[x,L];cases B
  ·exact i2 (h.steps g) _ _ F
  ·exact i2 (h.steps g) _ _ w
 |@left t l r e st st1 ht h ih=>
  intro g n sc P;obtain⟨k,w,o,so,A,p,j,q,x⟩:=P.two ht;exact(Fl p (.two (r2:=none) (st2:=st) (by rw[j];exact so) (by rw[q];exact ih g n _ k) (.inl ⟨rfl,rfl,rfl⟩))).eqk o
 |@right t l r e st st1 st2 u ht h z ih i2=>
  intro g n sc P;obtain⟨k,w,o,so,A,p,j,q,x⟩:=P.two ht;exact(Fl p (.two (by rw[j];exact so) (by rw[q];exact ih g n _ k) (.inr ⟨u,rfl,by rw[x];exact i2 (h.steps g) _ _ w,.inl ⟨rfl,rfl,rfl⟩⟩))).eqk o
 |@pair fr t0 l r e st st1 st2 u v h z ih i2=>
  intro g n sc P;obtain⟨k,w,o,so,A,p,j,q,x⟩:=P.two rfl;exact(Fl p (.two (by rw[j];exact so) (by rw[q];exact ih g n _ k) (.inr ⟨u,rfl,by rw[x];exact i2 (h.steps g) _ _ w,.inr ⟨v,rfl,.inl ⟨j,rfl,rfl⟩⟩⟩))).eqk o
 |@binary fr t0 s a b l r e st st1 st2 h z ih i2=>
  intro g n sc P;obtain⟨k,w,o,so,A,p,j,q,x⟩:=P.two rfl;exact(Fl p (.two (by rw[j];exact so) (by rw[q];exact ih g n _ k) (.inr ⟨_,rfl,by rw[x];exact i2 (h.steps g) _ _ w,.inr ⟨_,rfl,.inr (.inr ⟨s,a,b,P.sg.1,j,rfl,rfl,rfl,rfl⟩)⟩⟩))).eqk o
 |@part fr t0 l r e st st1 st2 sec u v h z ih i2=>
  intro g n sc P;obtain⟨k,w,o,so,A,p,j,q,x⟩:=P.two rfl;exact(Fl p (.two (by rw[j];exact so) (by rw[q];exact ih g n _ k) (.inr ⟨_,rfl,by rw[x];exact i2 (h.steps g) _ _ w,.inr ⟨_,rfl,.inr (.inl ⟨j,zqv sec u v⟩)⟩⟩))).eqk o
 |@zrq fr t0 fr' t0' bat bn l r b e env st st1 st2 y h z h3 ih i2=>
  intro g n sc P;obtain⟨k,w,o,so,A,p,j,q,x⟩:=P.two rfl;exact(Fl p (.two (by rw[j];exact so) (by rw[q];exact ih g n _ k) (.inr ⟨_,rfl,by rw[x];exact i2 (h.steps g) _ _ w,.inr ⟨_,rfl,.inr (.inl ⟨j,zlj E (z.steps (h.steps g)) (λ_=>⟨rfl,rfl⟩) (λB=>absurd h3 B)⟩)⟩⟩))).eqk o
 |@call fr t0 fr' t0' bat bn l r b e env st st1 st2 st3 y v h z h3 h4 ih i2 i3=>
  intro g n sc P;obtain⟨k,w,o,so,A,p,j,q,x⟩:=P.two rfl;have H:=z.steps (h.steps g);refine(Fl p (.two (by rw[j];exact so) (by rw[q];exact ih g n _ k) (.inr ⟨_,rfl,by rw[x];exact i2 (h.steps g) _ _ w,.inr ⟨_,rfl,.inr (.inl ⟨j,zlj E H (λB=>absurd B h3) (λ_ n sc P=>?_)⟩)⟩⟩))).eqk o;obtain⟨R,S,I,U⟩:=P;rw[fill]at R;simp only[Rf.T.sz]at U;refine i3 (by simp only;omega) n _ ⟨R.left,S,I,λB D=>?_⟩;rcases zmC.1 D with rfl|D
  ·exact znL _
  ·have:=U B D;omega
end
end
end
section
open Tw Go.Proofs.Tryz
open Go.RowKit
theorem Sr(u:Nat)(n:u<9223372036854775808)(w:World):Calls prog 138 #[vI u] w λe w'=>e=.returned (ug (Lib.decDigits u))/\zG w w':=by
 have v:¬(u:Int)<0:=oM;go_in;go_wp21;go_loopg[0,3] (u+2) (λq r s wr=>∃(x:Nat) (a:zU),r=vI x/\s=ug a/\x<=u/\q=x+(if a=[]then 2 else 1)/\Hid (Tb u x a)/\Hid (zG w wr))
 case atStart=>exact⟨u,[],rfl,rfl,znL _,sM,.inl ⟨rfl,rfl⟩,Aa _⟩
 case round=>
  obtain⟨x,a,rfl,rfl,A,g,c,f⟩:=hrel;have m:=Ox wr (UInt8.ofNat (48+x % 10));have k:((UInt8.ofNat (48+x % 10)).toNat:Int)=48+(x:Int) % 10:=by
   simp[UInt8.toNat_ofNat];omega
  rw[k]at m;have z:x<9223372036854775808:=oM;have j:=(uh c).len n;have has:a.toArray.size<=19:=by simpa using j
  have h:w.grownBy (wr.alloc (.cells #[vU (48+(x:Int) % 10)] 5)) none:=Aj f.o _;by_cases o:0<x
  ·have y:(0:Int)<x:=oM;have d:=bV ((uh c).step (.inl o));go_wp21;go_roundg (x / 10+1)
   case measure=>subst g;split<;>omega
   case rel=>exact⟨x / 10,UInt8.ofNat (48+x % 10)::a,by go_num,zm8 _ _,oM,sM,d,h⟩
  ·have p:x=0:=oM;subst p;cases a with
   |nil=>
    have d:=bV ((uh c).step (.inr rfl));have t:(convert 66 9 (sL wr.heap.size 1 1)).run prog (wr.alloc (.cells #[vU 48] 5))=.ok (ug [48]) (wr.alloc (.cells #[vU 48] 5)):=Ox wr 48;have i:w.grownBy (wr.alloc (.cells #[vU 48] 5)) none:=Aj f.o _;go_wp21;go_roundg 1
    case measure=>subst g;simp
    case rel=>exact⟨0,UInt8.ofNat (48+0 % 10) :: [],rfl,rfl,oM,sM,d,i⟩
   |cons b l=>
    have R:=bV ((uh c).done rfl sM);go_wp21;go_ret;exact⟨by rw[<-uh R];rfl,f.o⟩
theorem Gd(a b:zU):Value.string (({data:=a.toArray}:ByteArray) ++ {data:=b.toArray})=ug (a++b):=by
 unfold ug;congr 1
theorem zc8(u:Nat):Lib.itoa (u:Int)=Lib.decDigits u:=by
 unfold Lib.itoa;rw[jA oM,Int.toNat_natCast]
theorem zkb(c:Nat):Value.string ({data:=#[39]} ++ {data:=#[97+UInt8.ofNat c]})=ug [39,UInt8.ofNat (97+c)]:=by
 have e:(97+UInt8.ofNat c:UInt8)=UInt8.ofNat (97+c):=by simp[UInt8.ofNat_add]
 rw[e];rfl
theorem zkc(c:Nat)(l:zU):Value.string ({data:=#[39]} ++ {data:=#[97+UInt8.ofNat c]} ++ {data:=l.toArray})=ug ([39,UInt8.ofNat (97+c)]++l):=by
 have e:(97+UInt8.ofNat c:UInt8)=UInt8.ofNat (97+c):=by simp[UInt8.ofNat_add]
 rw[e];exact Gd [39,UInt8.ofNat (97+c)] l
theorem zc9(k:Nat)(i:k<=10000)(w:World):Calls prog 134 #[vI k] w λe w'=>e=.returned (ug (Hl k))/\zG w w':=by
 have d:=Ox w (UInt8.ofNat (97+k % 26));have c:((UInt8.ofNat (97+k % 26)).toNat:Int)=97+(k:Int) % 26:=by
  simp[UInt8.toNat_ofNat];omega
 rw[c]at d;have b:Hid (w.grownBy (w.alloc (.cells #[vU (97+(k:Int) % 26)] 5)) none):=zwA _ _ _;by_cases h:26<=k
 ·have f:(26:Int)<=(k:Int):=oM;have a:=Sr (k / 26) oM (w.alloc (.cells #[vU (97+(k:Int) % 26)] 5));have j:(Lib.decDigits (k / 26)).length<=19:=(E8 18 (k / 26) oM).2;have g:((k / 26:Nat):Int)=(k:Int) / 26:=oM;rw[g]at a;have E:Hid (Hl k=[39,UInt8.ofNat (97+k % 26)]++Lib.decDigits (k / 26)):=by
   show _=_;unfold Hl;rw[mA oM,zc8];rfl
  go_in;go_wp21;go_call a as e1 w1 ⟨rfl,hg⟩;have G:=Ab b.o hg;go_wp21;go_ret;refine⟨?_,G⟩;rw[E.o];exact congrArg Ending.returned (zkc _ _)
 ·have f:¬(26:Int)<=(k:Int):=oM;have E:Hid (Hl k=[39,UInt8.ofNat (97+k % 26)]):=by
   show _=_;unfold Hl;rw[jA oM]
  go_in;go_wp21;go_ret;refine⟨?_,b.o⟩;rw[E.o];exact congrArg Ending.returned (zkb _)
end
namespace Tw
section
open Go Go.RowKit
def Fa:Val->zU->zU
 |.num n,s=>if 400<s.length then s else s++Lib.itoa n
 |.Ak b,s=>if 400<s.length then s else s++La b
 |.pair l r,s=>if 400<s.length then s else Fa r (Fa l (s++[40])++[44,32])++[41]
 |.side _,s=>if 400<s.length then s else s++[102,117,110]
 |.clo _ _ _ _ _ _,s=>if 400<s.length then s else s++[102,117,110]
def Alike(a b:zU):Prop:=a=b\/400<a.length/\400<b.length
theorem Alike.put{a b:zU}(h:Alike a b)(x:zU):Alike (Ei 400 a x) (b++x):=by
 unfold Ei;rcases h with rfl|⟨c,d⟩
 ·split
  ·exact .inr ⟨by assumption,by simp;omega⟩
  ·exact .inl rfl
 ·rw[mA c];exact .inr ⟨c,by simp;omega⟩
theorem Alike.told:∀(v:Val) {a b:zU},Alike a b->Alike (Gk v a) (Fa v b):=by
 intro v
 induction v with
 |pair l r il ir=>
  intro a b h;by_cases c:400<a.length
  ·have d:400<b.length:=(by rcases h with rfl|h;exact c;exact h.2);rw[Gk,Fa,mA c,mA d];exact h
  ·have d:¬400<b.length:=(by rcases h with rfl|h;exact c;exact absurd h.1 c);rw[Gk,Fa,jA c,jA d];exact(ir ((il (h.put _)).put _)).put _
 |_=>
  intro a b h;by_cases c:400<a.length
  ·have d:400<b.length:=(by rcases h with rfl|h;exact c;exact h.2);rw[Gk,Fa,mA c,mA d];exact h
  ·have d:¬400<b.length:=(by rcases h with rfl|h;exact c;exact absurd h.1 c);rw[Gk,Fa,jA c,jA d];exact h.put _
theorem zn6(v:Val):Lx 400 (Gk v [])=Lx 400 (Fa v []):=by
 unfold Lx;rcases Alike.told v (.inl (Eq.refl []))with h|⟨a,b⟩
 ·rw[h]
 grind
end
end Tw
section
open Tw Go.Proofs.Tryz
open Go.RowKit
section
variable{n:Int}
theorem zda(h:n<0):Lib.itoa n=45::Lib.decDigits (-n).toNat:=by
 unfold Lib.itoa;rw[mA h,show n.natAbs=(-n).toNat from oM]
theorem zcj:Lib.decDigits 9223372036854775808=[57,50,50,51,51,55,50,48,51,54,56,53,52,55,55,53,56,48,56]:=by
 iterate 19 (unfold Lib.decDigits)
 rfl
theorem zdb(h :-9223372036854775808<=n/\n<=9223372036854775807):(Lib.itoa n).length<=20:=by
 unfold Lib.itoa;split
 ·have:=(E8 18 n.natAbs oM).2;simp;omega
 ·have:=(E8 18 n.toNat oM).2;omega
theorem zhd(n:Int)(h :-9223372036854775808<=n/\n<=9223372036854775807)(w:World):Calls prog 138 #[vI n] w λe w'=>e=.returned (ug (Lib.itoa n))/\zG w w':=by
 by_cases c:n<0
 ·by_cases b:n = -9223372036854775808
  ·subst b;have j:wrap64 9223372036854775808 = -9223372036854775808:=(by unfold wrap64;omega);go_in;go_wp21;go_ret;refine⟨?_,Aa _⟩;rw[zda oM,show(- -9223372036854775808:Int).toNat=9223372036854775808 from rfl,zcj];rfl
  ·obtain⟨a,d⟩:∃a:Nat,n = -(a:Int):=⟨(-n).toNat,oM⟩;subst d;have i:¬(-(a:Int))=(a:Int):=oM;have f:a<9223372036854775808:=oM;have E:=zda c;have g:(Lib.decDigits a).length<=19:=(E8 18 a oM).2;go_in;go_wp21;go_call Sr a f w as e1 w1 ⟨rfl,hg⟩;go_wp21;go_ret;refine⟨?_,hg⟩;rw[E,Int.neg_neg,Int.toNat_natCast];rfl
 ·obtain⟨a,rfl⟩:∃a:Nat,n=(a:Int):=⟨n.toNat,oM⟩;rw[zc8];exact Sr a oM w
section
variable {C:Tc}{w w':World}{K:List SB}
variable{x:Tw.Val}{p:Value}
theorem VlR.len(h:VlR C w K x p):∀s:zU,s.length<=(Fa x s).length/\(400<s.length->Fa x s=s)/\(s.length<=400->(Fa x s).length+3*s.length<=1627):=by
 have flat:∀(x:Val) (e:zU),e.length<=20->(∀s,Fa x s=if 400<s.length then s else s++e)->∀s:zU,s.length<=(Fa x s).length/\(400<s.length->Fa x s=s)/\(s.length<=400->(Fa x s).length+3*s.length<=1627):=by
  intro x e m h s;rw[h];refine⟨by split<;>simp,λh=>mA h,λh=>?_⟩;rw[jA oM];simp;omega
 induction h with
 |num hr _=>exact flat _ _ (zdb hr) λs=>rfl
 |@Ak _ q _=>exact flat _ _ (by cases q<;>decide) λs=>rfl
 |side _=>exact flat _ [102,117,110] dZ λs=>rfl
 |clo _ _ _=>exact flat _ [102,117,110] dZ λs=>rfl
 |@pair b x y p q _ _ _ i1 i2=>
  intro s;rw[Fa];by_cases a:400<s.length
  ·rw[mA a];exact⟨znL _,λ_=>rfl,λh=>absurd a oM⟩
  ·rw[jA a];have⟨k,g,f⟩:=i1 (s++[40]);have⟨i,c,d⟩:=i2 (Fa x (s++[40])++[44,32]);simp only[eA,zB,zD]at *;refine⟨oM,λh=>absurd h a,λ_=>?_⟩;by_cases j:400<s.length+1
   ·rw[g j]at i c d ⊢;simp only[eA,zB,zD]at *;rw[c oM];simp;omega
   ·have f:=f oM;by_cases l:400<(Fa x (s++[40])).length+2
    ·rw[c oM];simp;omega
    ·have d:=d oM;omega
def TC(w:World)(p:Value)(s m:zU):Prop:=∀w',w.grownBy w' none->Calls prog 75 #[p,ug s] w' λe a=>e=.returned (ug m)/\w'.grownBy a none
theorem Nz{b:Nat}{so n:Int}{a q e:Value}(E:zH w b #[vU so,vI n,a,q,e] 289){s d:zU}(R:s.length<=1700)(h:400<s.length/\d=s\/s.length<=400/\((so=105/\(-9223372036854775808<=n/\n<=9223372036854775807)/\d=s++Lib.itoa n)\/(so=98/\n=1/\d=s++[116,114,117,101])\/(so=98/\n=0/\d=s++[102,97,108,115,101])\/((so=49\/so=50\/so=70)/\d=s++[102,117,110])\/so=44/\∃m g,TC w a (s++[40]) m/\TC w q (m++[44,32]) g/\m.length<=1700/\g.length<=1700/\d=g++[41])):TC w (pT b) s d:=by
 intro f c;have j:=zbG c E;have P:s.toArray.size=s.length:=sM;have l:∀W:World,zG f W->W.cell? (aD b 2)=some a/\W.cell? (aD b 3)=some q:=λW k=>by
  have A:=zbG k j;refine⟨?_,?_⟩<;>(rw[mB _ _ _ _ _ _ A];rfl)
 have M:f.cell? (aD b 0)=some (vU so):=zcR j;have N:f.cell? (aD b 1)=some (vI n):=zcR j;have G:=c;rcases h with⟨F,rfl⟩|⟨F,h⟩
 ·have H:(400:Int)<(d.length:Int):=oM;go_in;go_wp21;go_ret;exact⟨rfl,Aa _⟩
 have H:¬(400:Int)<(s.length:Int):=oM;rcases h with⟨rfl,r,rfl⟩|⟨rfl,rfl,rfl⟩|⟨rfl,rfl,rfl⟩|⟨I,rfl⟩|⟨rfl,m,g,v,y,J,S,rfl⟩
 ·have O:=zdb r;go_in;go_wp21;go_call zhd n r f as e1 w2 ⟨rfl,c⟩;go_wp21;go_ret;exact⟨congrArg Ending.returned (Gd _ _),c⟩
 ·go_in;go_wp21;go_ret;exact⟨congrArg Ending.returned (Gd _ _),Aa _⟩
 ·go_in;go_wp21;go_ret;exact⟨congrArg Ending.returned (Gd _ _),Aa _⟩
 ·rcases I with rfl|rfl|rfl
  all_goals
   go_in;go_wp21;go_ret;exact⟨congrArg Ending.returned (Gd _ _),Aa _⟩
 ·have Q:m.toArray.size<=1700:=by simpa using J
  have o:=v f G;have z:∀W,zG f W->Calls prog 75 #[q,.string (({data:=m.toArray}:ByteArray) ++ {data:=#[44,32]})] W λe L=>e=.returned (ug g)/\zG W L:=λW k=>by
   have:=y W (Ab G k);rwa[<-Gd]at this
  rw[<-Gd]at o;have⟨B,D⟩:=l f (Aa _);go_in;go_wp21;go_call o as e1 w2 ⟨rfl,c⟩;have i:=c;have⟨B,D⟩:=l w2 i;go_wp21;go_call z w2 i as e1 w3 ⟨rfl,c⟩;have t:=Ab i c;go_wp21;go_ret;exact⟨congrArg Ending.returned (Gd _ _),t⟩
theorem zn7(h:VlR C w K x p):∀s:zU,s.length<=1700->TC w p s (Fa x s):=by
 induction h with
 |num hr h=>exact λs a=>Nz h a (by rw[Fa];split;exact .inl ⟨oM,rfl⟩;exact .inr ⟨oM,.inl ⟨rfl,hr,rfl⟩⟩)
 |@Ak b q h=>exact λs a=>Nz h a (by rw[Fa];split;exact .inl ⟨oM,rfl⟩;cases q;exact .inr ⟨oM,.inr (.inr (.inl ⟨rfl,rfl,rfl⟩))⟩;exact .inr ⟨oM,.inr (.inl ⟨rfl,rfl,rfl⟩)⟩)
 |@side b q h=>exact λs a=>Nz h a (by rw[Fa];split;exact .inl ⟨oM,rfl⟩;exact .inr ⟨oM,.inr (.inr (.inr (.inl ⟨by cases q<;>simp,rfl⟩)))⟩)
 |clo h _ _=>exact λs a=>Nz h a (by rw[Fa];split;exact .inl ⟨oM,rfl⟩;exact .inr ⟨oM,.inr (.inr (.inr (.inl ⟨.inr (.inr rfl),rfl⟩)))⟩)
 |@pair b x y p q h c h2 i1 i2=>
  intro s a;refine Nz h a ?_;rw[Fa];split
  ·exact .inl ⟨oM,rfl⟩
  ·have d:=c.len (s++[40]);have e:=h2.len (Fa x (s++[40])++[44,32]);simp[List.length_append,List.length_cons,List.length_nil]at d e;have f:(Fa x (s++[40])).length<=1627:=by
    by_cases c:400<s.length+1
    ·rw[d.2.1 c];simp;omega
    ·have:=d.2.2 oM;omega
   have g:(Fa y (Fa x (s++[40])++[44,32])).length<=1629:=by
    by_cases c:400<(Fa x (s++[40])).length+2
    ·rw[e.2.1 c];simp;omega
    ·have:=e.2.2 oM;omega
   exact .inr ⟨oM,.inr (.inr (.inr (.inr ⟨rfl,_,_,i1 _ (by simp;omega),i2 _ (by simp;omega),oM,oM,rfl⟩)))⟩
end
end
end
section
open Tw Tw.Rf Go.Proofs.Tryz
open Go.RowKit
section
def RhS:List TypeId:=[160,3]
structure SH(w:World)(Bq bq bs:Nat)(st:Wr)(nv:Value):Prop where
 cell:w.heap[bq]?=some (.cells #[.pointer (some ⟨bs,0,none⟩),ug st.2,nv] 160 (0,0))
 names:w.ownsRow Bq 3 1 nv st.1.length (st.1.map fun f:Nat=>Value.int .i64 f)
 low:Bq<=bq
theorem Tw.Rf.End.run{l:List RC}{k r:Nat}(h:Rf.End l k r):∃n,Rf.endS n l k=some r:=by
 induction h with
 |here h hl=>exact⟨1,by simp[Rf.endS,h,hl]⟩
 |step h hl _ ih=>
  have⟨n,a⟩:=ih;exact⟨n+1,by simp[Rf.endS,h,hl,a]⟩
section
variable {w w':World}{B Bq bq bs bt:Nat}{l:List Tw.Rf.RC}{bad:Bool}{env:List Bnd}{lv ev sv nv:Value}{st:Tw.Rf.Wr}
variable{p:Nat}
theorem SH.cells(h:SH w Bq bq bs st nv):w.cell? (aD bq 0)=some (pT bs)/\w.cell? (aD bq 1)=some (ug st.2)/\w.cell? (aD bq 2)=some nv:=by
 refine⟨?_,?_,?_⟩<;>(rw[mB _ _ _ _ _ _ h.cell];rfl)
theorem SH.grown(h:SH w Bq bq bs st nv)(a:zG w w'):SH w' Bq bq bs st nv:=
 {h with cell:=zbG a h.cell,names:=Bs h.names a}
theorem zug{j:Nat}{c:Array Value}(d:zH w bq c 160)(h:Bq<=bq)(v:Value):TK Bq RhS w (w.setCell (aD bq j) v) where
 low:=λ{k} i m=>aA w (aD bq j) k v (by simp;omega)
 os:=rfl
 tape:=rfl
 output:=rfl
 size:=sM
 cells:=λ{k g t n} a e=>(aA w (aD bq j) k v (by rintro rfl;rw[d]at a;cases a;revert e;decide)).trans a
 other:=λ{k o} b f=>(aA w (aD bq j) k v (by rintro rfl;rw[d]at b;cases b;exact f _ _ _ rfl)).trans b
theorem SH.Sw(h:SH w Bq bq bs st nv){v:Value}{b:zU}(hv:v=ug b):SH (w.setCell (aD bq 1) v) Bq bq bs (st.1,b) nv/\TK Bq RhS w (w.setCell (aD bq 1) v):=by
 subst hv;refine⟨⟨Bu h.cell _,Ai h.names λg c a=>(aA w (aD bq 1) g _ (by rintro rfl;cases h.cell.symm.trans a)).trans a,h.low⟩,zug h.cell h.low _⟩
theorem ST.sh(h:ST w B bs bt l bad env lv ev sv)(o:∀g,sv.ownBlock=some g->g<Bq)(k:TK Bq RhS w w'):ST w' B bs bt l bad env lv ev sv:=by
 have⟨q,f⟩:=h.seen;refine{h with store:=k.cells h.store dZ,types:=Ai h.types λg c b=>k.cells b dZ,Ly:=Ai h.Ly λg c b=>k.cells b dZ,seen:=⟨q,f.1,?_⟩};rcases f.2 with a|⟨e,m,n,a,i,d,j⟩
 ·exact .inl a
 ·exact .inr ⟨e,m,n,a,i,(k.low (o e (by rw[a];rfl)) (zgE.1 d).1).trans d,j⟩
theorem SH.push(h:SH w Bq bq bs st nv){g cap:Nat}{b:World}(i:b.ownsRow Bq 3 1 (sL g (st.1.length+1) cap) (st.1.length+1) (st.1.map (λf:Nat=>vI f)++[vI p]))(a:w.grownBy b nv.ownBlock):
  b.cell? (aD bq 2)=some nv/\b.frozen? (aD bq 2)=false/\SH (b.setCell (aD bq 2) (sL g (st.1.length+1) cap)) Bq bq bs (st.1++[p],st.2) (sL g (st.1.length+1) cap)/\TK Bq RhS w (b.setCell (aD bq 2) (sL g (st.1.length+1) cap)):=by
 have d:=Eu h.names a h.cell dZ;refine⟨zcR d,eB _ _ _ _ _ d,⟨Bu d _,?_,h.low⟩,?_⟩
 ·have r:=Ai i λn c j=>(aA b (aD bq 2) n (sL g (st.1.length+1) cap) (by rintro rfl;cases d.symm.trans j)).trans j;rw[eA,vB];exact r
 ·refine TK.trans ?_ (zug d h.low _);exact{
   low:=λ{k} x s=>a.block k s (λe=>by have:=(h.names.lt k e.symm).1;omega)
   os:=a.os
   tape:=a.tape
   output:=a.output
   size:=a.size
   cells:=λj q=>Eu h.names a j (λe=>by rw[e]at q;revert q;decide)
   other:=λ{k y} i t=>(a.block k (zgE.1 i).1 (λe=>by
    rcases h.names.2 with⟨m,_⟩|⟨n,cap,v,m,_,o,_⟩
    ·rw[m]at e;simp[Value.ownBlock]at e
    ·rw[m]at e;simp[Value.ownBlock]at e;subst e;rw[i]at o;cases o;exact t _ _ _ rfl)).trans i}
theorem zdc{p:Nat}:∀ {nm:List Nat} {i d:Nat},nm[i]?=some p->(∀j,j<i->nm[j]? ≠ some p)->idxS p nm d=some (d+i)
 |[],i,d,h,_=>by simp at h
 |y::nm,0,d,h,_=>by
  have:y=p:=by simpa using h
  simp[idxS,this]
 |y::nm,i+1,d,h,hn=>by
  have a:¬p=y:=λe=>hn 0 oM (by simp[e]);rw[idxS,jA a,zdc (nm:=nm) (i:=i) (by simpa using h) (λj b e=>hn (j+1) oM (by simpa using e))];congr 1;omega
theorem zhe{p:Nat}:∀ {nm:List Nat} {d:Nat},(∀j,j<nm.length->nm[j]? ≠ some p)->idxS p nm d=none
 |[],d,_=>rfl
 |y::nm,d,hn=>by
  have a:¬p=y:=λe=>hn 0 sM (by simp[e]);rw[idxS,jA a];exact zhe λj b e=>hn (j+1) (by simp;omega) (by simpa using e)
def ShC(B Bq bq bs bt:Nat)(l:List RC)(bad:Bool)(env:List Bnd)(lv ev sv:Value)(k:Nat)(a:Ty):Prop:=
 ∀(b:Nat) (w:World) (st:Wr) (nv:Value),b<=2->SH w Bq bq bs st nv->ST w B bs bt l bad env lv ev sv->Few st->st.2.length<=5300->Calls prog 73 #[.pointer (some ⟨bq,0,none⟩),.int .i64 k,.int .i64 b] w λe w'=>e=.returned (.tuple #[])/\TK Bq RhS w w'/\∃c,SH w' Bq bq bs (C7 (rbr a b) (rin a) st) c
theorem zew{k:Nat}{c:RC}{a:Ty}(he:Rf.End l k p)(hp:l[p]?=some c)(hways:(c.sort=105/\a=.int)\/(c.sort=98/\a=.bool)\/(c.sort=118/\a=.var p)):ShC B Bq bq bs bt l bad env lv ev sv k a:=by
 intro wh w st nv hwh h hs hf hl;have⟨b0,b1,b2⟩:=h.cells;have hls:st.2.toArray.size=st.2.length:=sM;have⟨n,hn⟩:=he.run;have⟨nm,out⟩:=st;dsimp only at *;have H:=h;have HS:=hs;by_cases hlong:400<out.length
 ·have hli:(400:Int)<(out.length:Int):=oM;go_in;go_wp21;refine bodyPost_ret (results_none rfl _ _ _) rfl ?_;refine⟨rfl,TK.refl _ _ _,nv,?_⟩;rw[C7,mA hlong];exact H
 have hli:¬(400:Int)<(out.length:Int):=oM;have hl1:out.length<=400:=oM;go_in;go_wp21;go_call Ve HS hn as e1 w1 ⟨rfl,hg⟩;have S1:=HS.grown hg;have H1:=H.grown hg;have K1:=TK.Ae Bq RhS hg;have⟨b0,b1,b2⟩:=H1.cells;have⟨_,c1,_,_,_⟩:=S1.cells;obtain⟨g,capl,rfl,d0,d1,d2,d3,_⟩:=S1.type hp;have hpl:(p:Int)<(l.length:Int):=by have:=(zlE.1 hp).1;omega
 obtain⟨so,hso⟩:∃so:Int,(c.sort:Int)=so:=⟨_,rfl⟩;rw[hso]at d0;go_upto_region 3 with fail;have g2:=zwA w1 (.cells #[vU so,vI c.a,vI c.b,vI c.foI] 281) none;have n2:=Ac w1 (.cells #[vU so,vI c.a,vI c.b,vI c.foI] 281);generalize w1.alloc (.cells #[vU so,vI c.a,vI c.b,vI c.foI] 281)=w2 at g2 n2 ⊢;generalize w1.heap.size=nb at n2 ⊢;have H2:=H1.grown g2;have K2:=K1.trans (TK.Ae Bq RhS g2);have m0:w2.cell? (aD nb 0)=some (vU so):=zcR n2;have S2:=S1.grown g2;have⟨b0,b1,b2⟩:=H2.cells;have f1:w2.frozen? (aD bq 1)=false:=eB _ _ _ _ _ H2.cell;have hw:∀a:Ty,rbr a wh=false->C7 (rbr a wh) (rin a) (nm,out)=rin a (nm,out):=λa ha=>by rw[C7,jA hlong,ha];rfl
 rcases hways with⟨hs,rfl⟩|⟨hs,rfl⟩|⟨hs,rfl⟩
 ·obtain rfl:so=105:=by have:=hso;omega
  have⟨X,KX⟩:=H2.Sw (Gd out [105,110,116]);have KX:=K2.trans KX;go_wp21;go_end0;exact⟨rfl,KX,nv,by rw[hw _ rfl];exact X⟩
 ·obtain rfl:so=98:=by have:=hso;omega
  have⟨X,KX⟩:=H2.Sw (Gd out [98,111,111,108]);have KX:=K2.trans KX;go_wp21;go_end0;exact⟨rfl,KX,nv,by rw[hw _ rfl];exact X⟩
 ·obtain rfl:so=118:=by have:=hso;omega
  obtain⟨pn,cn,rfl⟩:∃p c,nv=.slice p nm.length c:=by
   rcases H2.names.2 with⟨e1,e2⟩|⟨g2,cap2,_,e1,_⟩
   ·exact⟨_,_,by rw[e1,e2]⟩
   ·exact⟨_,_,e1⟩
  have hnm:nm.length<=400:=by have:=hf;unfold Few at this;dsimp only at this;omega
  go_wp21;go_loopg[8] nm.length (λm iv wr=>∃i:Nat,iv=vI i/\wr=w2/\i+m=nm.length/\(∀j,j<i->nm[j]? ≠ some p))
  case atStart=>exact⟨0,rfl,rfl,oM,(λj hj=>oM)⟩
  case round=>
   obtain⟨i,rfl,rfl,hi,HI⟩:=hrel;have ways:(∃y,nm[i]?=some y/\y≠p)\/nm[i]?=some p\/i=nm.length:=by
    rcases yB i nm.length with hlt|hge
    ·by_cases hy:nm[i]=p
     ·exact .inr (.inl (by rw[fA hlt,hy]))
     ·exact .inl ⟨_,fA hlt,hy⟩
    ·exact .inr (.inr oM)
   have hcell:∀y,nm[i]?=some y->∃gn,pn=some (aD gn 0)/\wr.cell? (aD gn i)=some (vI y):=λy hy=>by
    have hlt:=(zlE.1 hy).1;have hh:=H2.names;rcases hh.2 with⟨e1,e2⟩|⟨g',cap',cur,e1,_⟩
    ·dsimp only at e2;omega
    ·cases e1;refine⟨g',rfl,(hh.cellAt i (by simpa using hlt)).trans ?_⟩;rw[sD,hy];rfl
   rcases ways with⟨y,hy,hyp⟩|hy|hie
   ·obtain⟨gn,rfl,k0⟩:=hcell y hy;have hii:(i:Int)<(nm.length:Int):=(by have:=(zlE.1 hy).1;omega);have hyi:¬(y:Int)=(p:Int):=oM;have HI2:∀j,j<i+1->nm[j]? ≠ some p:=λj hj=>by
     rcases Nat.lt_or_eq_of_le (Nat.le_of_lt_succ hj)with h|rfl
     ·exact HI j h
     ·rw[hy];intro e;cases e;exact hyp rfl
    go_wp21;go_roundg (nm.length-(i+1))
    case measure=>omega
    case rel=>exact⟨i+1,by push_cast;rfl,rfl,oM,HI2⟩
   ·obtain⟨gn,rfl,k0⟩:=hcell p hy;have hii:(i:Int)<(nm.length:Int):=(by have:=(zlE.1 hy).1;omega);have HNT:Oi nm p=(i,nm):=(by
     have:=zdc (d:=0) hy HI;unfold Oi;rw[this,Nat.zero_add])
    obtain⟨wq,rfl⟩:∃wq,wq=wr:=⟨_,rfl⟩;have HX:=H2;have KQ:=K2;go_upto_region 17 with fail;have hv1:=(Rf.My (k:=i) oM).2;have HVL:=show i<=10000 by omega
    go_region_with (go_at_call 134;refine(zc9 i HVL _).mono ?_;rintro e3 w3 ⟨rfl,hg3⟩;have G3:=(Ab (Ad (Aa wq)) hg3);have H3:=(HX.grown G3);obtain⟨y0,y1,-⟩:=H3.cells;have y2:w3.frozen? (aD bq 1)=false:=eB _ _ _ _ _ H3.cell;clear hg3)
    all_goals
     have⟨X,KX⟩:=H3.Sw (Gd out (Hl i));have KX:=KQ.trans ((TK.Ae Bq RhS G3).trans KX);go_wp21;go_end0;refine⟨rfl,KX,?_⟩;rw[hw _ rfl,rin,HNT];exact⟨_,X⟩
   ·subst hie;have HNT:Oi nm p=(nm.length,nm++[p]):=(by
     have:=zhe (d:=0) HI;unfold Oi;rw[this])
    have hii:(prog.info? 3).map (λi=>(i.zero,i.size,i.bytes))=some (some (vI 0),1,8):=kR;have⟨i0,hi0,hz0,hz1,hz2⟩:=info_parts hii;have ga:=zwA wr (.cells #[vI p] 3) none;have SA:=H2.grown ga;have KA:=TK.Ae Bq RhS ga;have OA:=SA.names;have HBq:Bq<=(wr.alloc (.cells #[vI p] 3)).heap.size:=(by have h1:=SA.low;have h2:=(zgE.1 SA.cell).1;omega);have hmx:nm.length+1<=maxLen:=(by unfold maxLen;omega);go_upto_region 17 with(at_builtin;refine wpList_append_lies _ rfl _ _ 33 rfl Bq 3 i0 (vI 0) 1 8 underlying33 hi0 hz0 hz1 hz2 rfl dZ (.slice pn nm.length cn) nm.length (nm.map λf:Nat=>vI f) rfl OA (aD wr.heap.size 0) 1 1 [vI p] rfl rfl (J7 _ _ _) (by intro u hu;simp at hu;subst hu;rfl) dZ hmx oM HBq _ rfl ?_;intro g5 cap5 w5 hown5 hgrow5 _ _;obtain⟨cz,fz,X5,K5⟩:=SA.push hown5 hgrow5;have X5:=X5;have K5:=(KA.trans K5);clear hown5 hgrow5);have KQ:=K2.trans K5;generalize w5.setCell (aD bq 2) (sL g5 (nm.length+1) cap5)=wq at X5 KQ ⊢;have HX:=X5;have⟨b0',b1',b2'⟩:=HX.cells;generalize nm.length=i at HNT hnm ⊢;have hv1:=(Rf.My (k:=i) oM).2;have HVL:=show i<=10000 by omega
    go_region_with (go_at_call 134;refine(zc9 i HVL _).mono ?_;rintro e3 w3 ⟨rfl,hg3⟩;have G3:=(Ab (Ad (Aa wq)) hg3);have H3:=(HX.grown G3);obtain⟨y0,y1,-⟩:=H3.cells;have y2:w3.frozen? (aD bq 1)=false:=eB _ _ _ _ _ H3.cell;clear hg3)
    all_goals
     have⟨X,KX⟩:=H3.Sw (Gd out (Hl i));have KX:=KQ.trans ((TK.Ae Bq RhS G3).trans KX);go_wp21;go_end0;refine⟨rfl,KX,?_⟩;rw[hw _ rfl,rin,HNT];exact⟨_,X⟩
end
end
section
section
variable {B Bq bq bs bt:Nat}{l:List Tw.Rf.RC}{bad:Bool}{env:List Bnd}{lv ev sv:Value}
theorem zqw (hsv:∀g,sv.ownBlock=some g->g<Bq) {k p:Nat} {c:RC} {a b ty:Ty} {pr:Bool} (hty:ty=if pr then .pair a b else .fn a b) (he:Rf.End l k p) (hp:l[p]? = some c) (hs:c.sort=if pr then 42 else 62) (hA:ShC B Bq bq bs bt l bad env lv ev sv c.a a) (hB:ShC B Bq bq bs bt l bad env lv ev sv c.b b):ShC B Bq bq bs bt l bad env lv ev sv k ty:=by
  intro wh w st nv hwh h hS hf hl
  have⟨b0,b1,b2⟩:=h.cells
  have⟨n,hn⟩:=he.run
  have⟨nm,out⟩:=st
  dsimp only at *
  have H:=h
  by_cases hlong:400<out.length
  · have hli:(400:Int)<(out.length:Int):=oM
    go_in
    go_wp21
    refine bodyPost_ret (results_none rfl _ _ _) rfl ?_
    refine⟨rfl,TK.refl _ _ _,nv,?_⟩
    rw[C7,mA hlong]
    exact H
  have hli:¬(400:Int)<(out.length:Int):=oM
  have hl1:out.length<=400:=oM
  have hl2:out.toArray.size<=400:=by simpa using hl1
  go_in
  go_wp21
  go_call Ve hS hn as e1 w1 ⟨rfl,hg⟩
  have S1:=hS.grown hg
  have H1:=H.grown hg
  have K1:=TK.Ae Bq RhS hg
  have⟨b0,b1,b2⟩:=H1.cells
  have⟨_,c1,_,_,_⟩:=S1.cells
  obtain⟨g,capl,rfl,d0,d1,d2,d3,_⟩:=S1.type hp
  have hpl:(p:Int)<(l.length:Int):=by have:=(zlE.1 hp).1;omega
  obtain⟨so,hso⟩:∃so:Int,(c.sort:Int)=so:=⟨_,rfl⟩
  rw[hso]at d0
  have HSO:Hid (so=if pr then 42 else 62):=bV (by rw[<-hso,hs];cases pr<;>rfl)
  go_upto_region 3 with fail
  have g2:=zwA w1 (.cells #[vU so,vI c.a,vI c.b,vI c.foI] 281) none
  have n2:=Ac w1 (.cells #[vU so,vI c.a,vI c.b,vI c.foI] 281)
  obtain⟨w2,hw2⟩:∃w2,w1.alloc (.cells #[vU so,vI c.a,vI c.b,vI c.foI] 281)=w2:=⟨_,rfl⟩
  obtain⟨nb,hnb⟩:∃nb,w1.heap.size=nb:=⟨_,rfl⟩
  rw[hw2]at g2 n2
  rw[hnb]at n2
  rw[hw2,hnb]
  have H2:=H1.grown g2
  have K2:=K1.trans (TK.Ae Bq RhS g2)
  have m0:w2.cell? (aD nb 0)=some (vU so):=zcR n2
  have S2:=S1.grown g2
  have⟨b0,b1,b2⟩:=H2.cells
  have f1:w2.frozen? (aD bq 1)=false:=eB _ _ _ _ _ H2.cell
  -- brackets,or none:the tree,the bytes ahead of it
  obtain⟨br,hbr⟩:∃br,rbr ty wh=br:=⟨_,rfl⟩
  have hbw:(pr=false/\br=true/\(0:Int)<(wh:Int))\/(pr=false/\br=false/\¬(0:Int)<(wh:Int))\/(pr=true/\br=true/\((wh:Int)==2)=true)\/(pr=true/\br=false/\((wh:Int)==2)=false):=by
    rw[<-hbr,hty]
    cases pr
    · rcases Nat.eq_zero_or_pos wh with h | h
      · exact .inr (.inl ⟨rfl,by simp [rbr,Ty.tsort,h],oM⟩)
      · exact .inl ⟨rfl,by simp [rbr,Ty.tsort,h],oM⟩
    · by_cases h:wh=2
      · exact .inr (.inr (.inl ⟨rfl,by simp [rbr,Ty.tsort,h],by simp [h]⟩))
      · exact .inr (.inr (.inr ⟨rfl,by simp [rbr,Ty.tsort,h],by simp; omega⟩))
  -- the walk as far as the part on the left
  have⟨X,KX⟩:=H2.Sw (Gd out [40])
  have X:=bV X
  have KX:=bV KX
  rcases hbw with⟨rfl,rfl,hw⟩|⟨rfl,rfl,hw⟩|⟨rfl,rfl,hw⟩|⟨rfl,rfl,hw⟩
  case' inl=>
    obtain rfl:so=62:=HSO.o
    go_upto_region 6 with fail
    obtain⟨wz,hwz⟩:∃wz,w2.setCell (aD bq 1) (Value.string ({data:=out.toArray} ++ {data:=#[40]}))=wz:=⟨_,rfl⟩
    have X':SH (w2.setCell (aD bq 1) (Value.string ({data:=out.toArray} ++ {data:=#[40]}))) Bq bq bs (nm,out++[40]) nv:=X.o
    have KX':TK Bq RhS w2 (w2.setCell (aD bq 1) (Value.string ({data:=out.toArray} ++ {data:=#[40]}))):=KX.o
    rw[hwz]at X' KX'
    rw[hwz]
    have ZZ:∃ol:zU,Hid (SH wz Bq bq bs (nm,ol) nv)/\Hid (TK Bq RhS w2 wz)/\Hid (ol.length<=401/\out.length<=ol.length)/\Hid (C7 (rbr ty wh) (rin ty) (nm,out)=app (rin ty (nm,ol)) [41]):=⟨out++[40],bV X',bV KX',bV ⟨by simp;omega,sM⟩,bV (by rw[hbr,C7,jA hlong];rfl)⟩
    have MB:=trivial
    have MF:=trivial
  case' inr.inl=>
    obtain rfl:so=62:=HSO.o
    go_upto_region 6 with fail
    obtain⟨wz,rfl⟩:∃wz,wz=w2:=⟨_,rfl⟩
    have ZZ:∃ol:zU,Hid (SH wz Bq bq bs (nm,ol) nv)/\Hid (TK Bq RhS wz wz)/\Hid (ol.length<=401/\out.length<=ol.length)/\Hid (C7 (rbr ty wh) (rin ty) (nm,out)=rin ty (nm,ol)):=⟨out,H2,bV (TK.refl _ _ _),bV ⟨oM,znL _⟩,bV (by rw[hbr,C7,jA hlong];rfl)⟩
    have MF:=trivial
  case' inr.inr.inl=>
    obtain rfl:so=42:=HSO.o
    go_upto_region 6 with fail
    obtain⟨wz,hwz⟩:∃wz,w2.setCell (aD bq 1) (Value.string ({data:=out.toArray} ++ {data:=#[40]}))=wz:=⟨_,rfl⟩
    have X':SH (w2.setCell (aD bq 1) (Value.string ({data:=out.toArray} ++ {data:=#[40]}))) Bq bq bs (nm,out++[40]) nv:=X.o
    have KX':TK Bq RhS w2 (w2.setCell (aD bq 1) (Value.string ({data:=out.toArray} ++ {data:=#[40]}))):=KX.o
    rw[hwz]at X' KX'
    rw[hwz]
    have ZZ:∃ol:zU,Hid (SH wz Bq bq bs (nm,ol) nv)/\Hid (TK Bq RhS w2 wz)/\Hid (ol.length<=401/\out.length<=ol.length)/\Hid (C7 (rbr ty wh) (rin ty) (nm,out)=app (rin ty (nm,ol)) [41]):=⟨out++[40],bV X',bV KX',bV ⟨by simp;omega,sM⟩,bV (by rw[hbr,C7,jA hlong];rfl)⟩
    have MB:=trivial
  case' inr.inr.inr=>
    obtain rfl:so=42:=HSO.o
    go_upto_region 6 with fail
    obtain⟨wz,rfl⟩:∃wz,wz=w2:=⟨_,rfl⟩
    have ZZ:∃ol:zU,Hid (SH wz Bq bq bs (nm,ol) nv)/\Hid (TK Bq RhS wz wz)/\Hid (ol.length<=401/\out.length<=ol.length)/\Hid (C7 (rbr ty wh) (rin ty) (nm,out)=rin ty (nm,ol)):=⟨out,H2,bV (TK.refl _ _ _),bV ⟨oM,znL _⟩,bV (by rw[hbr,C7,jA hlong];rfl)⟩
  all_goals
    have⟨ol,HZ,KZ,LZ,HQ⟩:=ZZ
    have SZ:=bV (S2.sh hsv KZ.o)
    have NZ:=KZ.o.cells n2 dZ
    have KZ:=bV (K2.trans KZ.o)
    have q0:wz.cell? (aD nb 0)=some (vU _):=(mB _ _ _ _ _ _ NZ)
    have q1:wz.cell? (aD nb 1)=some (vI c.a):=zcR NZ
    have NZ:=bV NZ
    have FZ:Hid (Few (nm,ol)):=bV (by have h1:=hf;have h2:=LZ.o;unfold Few at h1 ⊢;dsimp only at *;omega)
    go_wp21
    first
      | (have _:=MF
         refine (hA 1 _ _ _ oM HZ.o SZ.o FZ.o (by have:=LZ.o; dsimp only; omega)).mono ?_
         have E1:Hid (rin ty (nm,ol)=C7 (rbr b 0) (rin b) (app (C7 (rbr a 1) (rin a) (nm,ol)) [32,45,62,32])):=bV (by rw [hty]; rfl))
      | (refine (hA 2 _ _ _ oM HZ.o SZ.o FZ.o (by have:=LZ.o; dsimp only; omega)).mono ?_
         have E1:Hid (rin ty (nm,ol)=C7 (rbr b 2) (rin b) (app (C7 (rbr a 2) (rin a) (nm,ol)) [32,42,32])):=bV (by rw [hty]; rfl))
    rintro e3 w3 ⟨rfl,hk3,nv3,hs3⟩
    have S3:=bV (SZ.o.sh hsv hk3)
    have N3:=bV (hk3.cells NZ.o dZ)
    have K3:=bV (KZ.o.trans hk3)
    have L1:∀br,Few (C7 br (rin a) (nm,ol))/\(C7 br (rin a) (nm,ol)).2.length<=5260:=λbr=>by
      have⟨h1,h2,h3⟩:=Kw (Pa a) br FZ.o
      refine⟨h1,?_⟩
      have h4:=LZ.o.1
      rcases yB 400 ol.length with h|h
      · rw [h2 h]; dsimp only; omega
      · have:=h3 h; dsimp only at this; omega
    first
      | (have _:=MF
         obtain ⟨st1,hst1⟩:∃st1,C7 (rbr a 1) (rin a) (nm,ol)=st1:=⟨_,rfl⟩
         have L2:=L1 (rbr a 1)
         rw [hst1] at hs3 E1 L2
         have ⟨nm1,out1⟩:=st1
         have lo1:out1.length<=5260:=L2.2
         have FW:=bV L2.1
         have ⟨b0,b1,b2⟩:=hs3.cells
         have f1:w3.frozen? (aD bq 1)=false:=eB _ _ _ _ _ hs3.cell
         have ⟨X,KX⟩:=hs3.Sw (Gd out1 [32,45,62,32])
         have X:=bV X
         have KX:=bV KX
         go_upto_region 21 with fail
         obtain ⟨w4,hw4⟩:∃w4,w3.setCell (aD bq 1) (Value.string ({data:=out1.toArray} ++ {data:=#[32,45,62,32]}))=w4:=⟨_,rfl⟩
         have X':SH (w3.setCell (aD bq 1) (Value.string ({data:=out1.toArray} ++ {data:=#[32,45,62,32]}))) Bq bq bs (nm1,out1 ++ [32,45,62,32]) nv3:=X.o
         have KX':TK Bq RhS w3 (w3.setCell (aD bq 1) (Value.string ({data:=out1.toArray} ++ {data:=#[32,45,62,32]}))):=KX.o
         rw [hw4] at X' KX'
         rw [hw4]
         have S4:=bV (S3.o.sh hsv KX')
         have N4:=KX'.cells N3.o dZ
         have q2:w4.cell? (aD nb 2)=some (vI c.b):=zcR N4
         have K4:=bV (K3.o.trans KX')
         have X4:=bV X'
         have FW4:Hid (Few (nm1,out1 ++ [32,45,62,32])):=bV (by have h1:=FW.o; unfold Few at h1 ⊢; simp at h1 ⊢; omega)
         go_wp21
         go_call hB 0 _ _ _ oM X4.o S4.o FW4.o (by simp; omega) as e5 w5 ⟨rfl,hk5,nv5,hs5⟩
         have L5:(C7 (rbr b 0) (rin b) (nm1,out1 ++ [32,45,62,32])).2.length<=5270:=by
           have ⟨h1,h2,h3⟩:=Kw (Pa b) (rbr b 0) FW4.o
           rcases yB 400 (nm1,out1 ++ [32,45,62,32]).2.length with h | h
           · rw [h2 h]; simp; omega
           · have:=h3 h; omega
         have E5:Hid (rin ty (nm,ol)=C7 (rbr b 0) (rin b) (nm1,out1 ++ [32,45,62,32])):=E1
         obtain ⟨st5,hst5⟩:∃st5,C7 (rbr b 0) (rin b) (nm1,out1 ++ [32,45,62,32])=st5:=⟨_,rfl⟩
         rw [hst5] at hs5 L5 E5)
      | (obtain ⟨st1,hst1⟩:∃st1,C7 (rbr a 2) (rin a) (nm,ol)=st1:=⟨_,rfl⟩
         have L2:=L1 (rbr a 2)
         rw [hst1] at hs3 E1 L2
         have ⟨nm1,out1⟩:=st1
         have lo1:out1.length<=5260:=L2.2
         have FW:=bV L2.1
         have ⟨b0,b1,b2⟩:=hs3.cells
         have f1:w3.frozen? (aD bq 1)=false:=eB _ _ _ _ _ hs3.cell
         have ⟨X,KX⟩:=hs3.Sw (Gd out1 [32,42,32])
         have X:=bV X
         have KX:=bV KX
         go_upto_region 25 with fail
         obtain ⟨w4,hw4⟩:∃w4,w3.setCell (aD bq 1) (Value.string ({data:=out1.toArray} ++ {data:=#[32,42,32]}))=w4:=⟨_,rfl⟩
         have X':SH (w3.setCell (aD bq 1) (Value.string ({data:=out1.toArray} ++ {data:=#[32,42,32]}))) Bq bq bs (nm1,out1 ++ [32,42,32]) nv3:=X.o
         have KX':TK Bq RhS w3 (w3.setCell (aD bq 1) (Value.string ({data:=out1.toArray} ++ {data:=#[32,42,32]}))):=KX.o
         rw [hw4] at X' KX'
         rw [hw4]
         have S4:=bV (S3.o.sh hsv KX')
         have N4:=KX'.cells N3.o dZ
         have q2:w4.cell? (aD nb 2)=some (vI c.b):=zcR N4
         have K4:=bV (K3.o.trans KX')
         have X4:=bV X'
         have FW4:Hid (Few (nm1,out1 ++ [32,42,32])):=bV (by have h1:=FW.o; unfold Few at h1 ⊢; simp at h1 ⊢; omega)
         go_wp21
         go_call hB 2 _ _ _ oM X4.o S4.o FW4.o (by simp; omega) as e5 w5 ⟨rfl,hk5,nv5,hs5⟩
         have L5:(C7 (rbr b 2) (rin b) (nm1,out1 ++ [32,42,32])).2.length<=5270:=by
           have ⟨h1,h2,h3⟩:=Kw (Pa b) (rbr b 2) FW4.o
           rcases yB 400 (nm1,out1 ++ [32,42,32]).2.length with h | h
           · rw [h2 h]; simp; omega
           · have:=h3 h; omega
         have E5:Hid (rin ty (nm,ol)=C7 (rbr b 2) (rin b) (nm1,out1 ++ [32,42,32])):=E1
         obtain ⟨st5,hst5⟩:∃st5,C7 (rbr b 2) (rin b) (nm1,out1 ++ [32,42,32])=st5:=⟨_,rfl⟩
         rw [hst5] at hs5 L5 E5)
    have⟨nm5,out5⟩:=st5
    have lo5:out5.length<=5270:=L5
    have K5:=bV (K4.o.trans hk5)
    have H5:=bV hs5
    have⟨y0,y1,y2⟩:=hs5.cells
    have y3:w5.frozen? (aD bq 1)=false:=eB _ _ _ _ _ hs5.cell
    first
      | (have _:=MB
         have ⟨X,KX⟩:=H5.o.Sw (Gd out5 [41])
         have X:=bV X
         have KX:=bV (K5.o.trans KX)
         go_wp21
         go_end0
         refine ⟨rfl,KX.o,?_⟩
         rw [HQ.o,E5.o]
         exact ⟨_,X.o⟩)
      | (go_wp21
         go_end0
         refine ⟨rfl,K5.o,?_⟩
         rw [HQ.o,E5.o]
         exact ⟨_,H5.o⟩)
end
end
section
variable{w:World}{B bt:Nat}
theorem Bf.lower{b:Nat}{e:TypeId}{v:Value}{c:List Value}(h:Bf w B e v c)(k:b<=B):Bf w b e v c:=by
 refine⟨h.1,?_⟩;rcases h.2 with a|⟨i,f,g,a,j,d⟩
 ·exact .inl a
 ·exact .inr ⟨i,f,g,a,oM,d⟩
theorem zve{Bq bq bs:Nat}{l:List RC}{bad:Bool}{env:List Bnd}{lv ev sv:Value}(b:∀g,sv.ownBlock=some g->g<Bq){k:Nat}{a:Ty}(h:Rf.Fin l k a):ShC B Bq bq bs bt l bad env lv ev sv k a:=by
 induction h with
 |var he hx hs=>exact zew he hx (.inr (.inr ⟨hs,rfl⟩))
 |int he hx hs=>exact zew he hx (.inl ⟨hs,rfl⟩)
 |bool he hx hs=>exact zew he hx (.inr (.inl ⟨hs,rfl⟩))
 |fn he hx hs _ _ ih1 ih2=>exact zqw b (pr:=false) rfl he hx hs ih1 ih2
 |pair he hx hs _ _ ih1 ih2=>exact zqw b (pr:=true) rfl he hx hs ih1 ih2
def zvi(w:World)(t:Tw.T)(e:Ending)(w':World):Prop:=w.grownBy w' none/\((e=.returned (.tuple #[ug [],.bool false])/\∀a,¬Typ t .nil a)\/∃a,Ws t a/\e=.returned (.tuple #[ug a.shown,.bool true]))
theorem zdd{s:ByteArray}{t:Tw.T}(hT:Rl w bt s t)(hf:t.freeS []=none){wt:Nat}(hw:Ah t .nil=some wt)(hwt:wt<=2000):Calls prog 43 #[pT bt] w (zvi w t):=by
 have⟨body,tv,nv,hL,hR,hG⟩:=hT;have⟨n0,r,S,q1,q2,q3,q4⟩:=zjx hf;have⟨n1,r',S',p1,p2⟩:=zn4 hf hw hwt;obtain⟨rfl,rfl⟩:r'=r/\S'=S:=by
  have h1:=q1 (n0+n1) oM;rw[p1 (n0+n1) oM]at h1;cases h1;exact⟨rfl,rfl⟩
 have hrun:=q1 (n0+n1) oM;have hsz:Rf.T.sz t<=5000:=by have:=hR.few;rwa[Af]at this
 have⟨_,_,_,t3,_⟩:=hR.cells;have g1:=zwA w (.cells #[pT bt,zN,.bool false,zN,zN] 155) none;have n1':=Ac w (.cells #[pT bt,zN,.bool false,zN,zN] 155);have R1:=hR.grown g1;have OA:=Iq (B:=w.heap.size) (Br:=0) (bs:=w.heap.size) (bt:=bt) (s:=s) (body:=body) (tv:=tv) (nv:=nv) (root:=((Rf.T.sz t-1:Nat):Int)) (er:=-1) (f:=ixF body) (g:=ixT body) (N:=fill (ixF body) (ixT body) t 0 []) (n0+n1) t 0 [] .nil [] ⟨[],false⟩ r' S' hf (zqt hG) (λi x hi=>by rw[Nat.zero_add];exact hi) .nil (λb hb=>by cases hb) (by simp;omega) hrun oM;rw[Nat.zero_add]at OA;have HQ4:=bV q4;have HQ3:=bV q3;go_in;go_upto_region 2 with fail;generalize w.alloc (.cells #[pT bt,zN,.bool false,zN,zN] 155)=w1 at g1 n1' R1 ⊢;obtain⟨B,hB⟩:∃B,w.heap.size=B:=⟨_,rfl⟩;rw[hB]at n1' OA;rw[hB];have S1:ST w1 B B bt [] false [] zN zN zN:=⟨n1',mD _ _ _ _,mD _ _ _ _,⟨[],mD _ _ _ _⟩,znL _,sM⟩;have OC1:=bV (OA w1 _ _ _ (by simp[Oe];omega) R1 S1);have G1:=bV g1;have⟨_,_,_,t3',_⟩:=R1.cells;have HB:=bV hB;have hl4:S'.l.length<=4008000:=p2;clear g1 n1' OA q1 q2 q3 q4 p1 p2 hrun R1 hR t3 hB S1;go_wp21;go_call OC1.o as e2 w2 ⟨rfl,hk2,lv2,ev2,sv2,hv2,hs2⟩;have G2:zG w w2:=⟨hk2.os.trans G1.o.os,hk2.tape.trans G1.o.tape,hk2.output.trans G1.o.output,kB G1.o.size hk2.size,λk hk _=>(hk2.low (by rw[<-HB.o];exact hk) (aB hk G1.o.size)).trans (G1.o.block k hk sM)⟩;have S2:=bV hs2;have⟨_,_,a2,_,_⟩:=hs2.cells;have hv2':Oe sv2<=Rf.T.sz t:=by simpa[Oe]using hv2
 clear hk2 hs2 OC1 G1 hv2;cases hbad:S'.bad with
 |true=>
  rw[hbad]at a2;have HX:∀a,¬Typ t .nil a:=by
   rcases HQ4.o with⟨_,h⟩|⟨h,_⟩
   ·exact bV h
   ·rw[hbad]at h;cases h
  go_wp21
  go_ret2;exact⟨G2,.inl ⟨rfl,HX⟩⟩
 |false=>
  rw[hbad]at a2 S2;obtain⟨b,hb1,hb2⟩:∃b,(∀n,n0<=n->Mu n S'.l S'.l.length 0 (List.replicate S'.l.length 0)=some b)/\((b=true/\∀a,¬Typ t .nil a)\/(b=false/\∃a,Rf.Fin S'.l r' a/\Ws t a)):=by
   rcases HQ4.o with⟨h,_⟩|⟨_,h⟩
   ·rw[hbad]at h;cases h
   ·exact h
  have HB1:=bV (hb1 n0 (znL _));have HB2:=bV hb2;clear hb1 hb2 HQ4;have hii:(prog.info? 3).map (λi=>(i.zero,i.size,i.bytes))=some (some (vI 0),1,8):=kR;have⟨i0,hi,hz0,hz1,hz2⟩:=info_parts hii;obtain⟨sn,p,c,rfl,hsn⟩:=S2.o.zrx;have ga:=zwA w2 (.cells #[vI r'] 3) none;have SA:=bV (S2.o.grown ga);have OA:=bV (Bs hsn ga);have KA:=bV (TK.Ae B OfS ga);have HBB:B<=(w2.alloc (.cells #[vI r'] 3)).heap.size:=(by have h1:=SA.o.low;have h2:=(zgE.1 SA.o.store).1;omega);have hv3:sn.length<=Rf.T.sz t:=hv2';have hmx:sn.length+1<=maxLen:=by unfold maxLen;omega
  have⟨_,_,_,_,cs⟩:=S2.o.cells;clear ga hsn hv2' hii;go_upto_region 6 with(at_builtin;refine wpList_append_lies _ rfl _ _ 33 rfl B 3 i0 (vI 0) 1 8 underlying33 hi hz0 hz1 hz2 rfl dZ (.slice p sn.length c) sn.length (sn.map λf:Nat=>vI f) rfl OA.o (aD w2.heap.size 0) 1 1 [vI r'] rfl rfl (J7 _ _ _) (by intro u hu;simp at hu;subst hu;rfl) dZ hmx oM HBB _ rfl ?_;intro g5 cap5 w5 hown5 hgrow5 _ _;obtain⟨cz,fz,X5,K5⟩:=SA.o.push OA.o hown5 hgrow5;have X5:=bV X5;have K5:=bV (KA.o.trans K5);clear hown5 hgrow5);have G5:w.grownBy (w5.setCell (aD B 4) (sL g5 (sn.length+1) cap5)) none:=⟨K5.o.os.trans G2.os,K5.o.tape.trans G2.tape,K5.o.output.trans G2.output,kB G2.size K5.o.size,λk hk _=>(K5.o.low (by rw[<-HB.o];exact hk) (aB hk G2.size)).trans (G2.block k hk sM)⟩;generalize w5.setCell (aD B 4) (sL g5 (sn.length+1) cap5)=w6 at X5 G5 ⊢;have G6:=bV G5;clear cz fz K5 SA OA KA HBB S2 G2 cs a2 G5;have⟨l,bad⟩:=S';obtain rfl:bad=false:=hbad;dsimp only at *;have hfew:l.length<=5000000:=oM;have⟨_,b1,_,_,_⟩:=X5.o.cells;obtain⟨pl,cl,rfl⟩:=X5.o.slice;have⟨MD,hMD,hmd⟩:=za9 33 3 (vI 0) l.length 8 underlying33 kR oM rfl hfew;have HMD:=bV hMD;clear hMD;go_upto_region 7 with fail;have g7:=zwA w6 (.cells MD 3) none;have r7:=Bf.made (W:=w6) (e:=3) hfew HMD.o;generalize w6.alloc (.cells MD 3)=w7 at g7 r7 ⊢;obtain⟨cb,hcb⟩:∃cb,w6.heap.size=cb:=⟨_,rfl⟩;rw[hcb]at r7;rw[hcb];have hsv:∀g,(sL cb l.length l.length).ownBlock=some g->(sL g5 (sn.length+1) cap5).ownBlock≠some g:=λg hg e=>by
   have e1:cb=g:=(by simpa[Value.ownBlock]using hg);have⟨_,hs⟩:=X5.o.seen;have h1:=(hs.lt _ e).2;omega
  have HSV:=bV hsv;have hBc:w.heap.size<=cb:=by rw[<-hcb];exact G6.o.size
  have S7:=bV (X5.o.grown g7);have R7:Bf w7 cb 3 (sL cb l.length l.length) ((List.replicate l.length (0:Int)).map Wx):=by rw[List.map_replicate];exact bV r7
  have G7:=bV (Ab G6.o g7);clear g7 r7 hcb b1 X5 G6 hmd hsv;go_wp21;go_loopg[7] l.length (λm iv wr=>∃(i:Nat) (st:List Int),iv=vI i/\i+m=l.length/\Hid (ST wr B B bt l false [] (.slice pl l.length cl) ev2 (sL g5 (sn.length+1) cap5))/\Hid (Bf wr cb 3 (sL cb l.length l.length) (st.map Wx))/\Hid (zG w wr)/\Hid (Mu n0 l m i st=some b))
  case atStart=>exact⟨0,List.replicate l.length 0,rfl,oM,S7,R7,G7,HB1⟩
  case round=>
   obtain⟨i,st,rfl,him,SX,RX,GX,FX⟩:=hrel;have⟨_,b1,_,_,_⟩:=SX.o.cells;cases gk with
   |succ m=>
    have hf:=FX.o;rw[Mu]at hf;have⟨q,hq,hf⟩:=zbE.1 hf;have HF:=hf;have RC:=zqp HSV.o n0 i st q hq wr SX.o RX.o;have hil:(i:Int)<(l.length:Int):=oM;clear hf hq FX;go_wp21;go_call RC as e8 w8 ⟨rfl,hg8,hr8⟩;have S8:=SX.o.beside RX.o ⟨dZ,dZ,dZ⟩ (λ_=>HSV.o) hg8;have G8:=zj4 GX.o (RX.o.lower hBc) hg8;clear hg8 SX RX GX RC b1;have⟨q1,q2⟩:=q;cases q1 with
    |true=>
     have hf:=HF;rw[mA rfl]at hf;cases hf;have HX:∀a,¬Typ t .nil a:=by
      rcases HB2.o with⟨_,h⟩|⟨h,_⟩
      ·exact bV h
      ·cases h
     go_wp21
     go_ret2;exact⟨G8,.inl ⟨rfl,HX⟩⟩
    |false=>
     have hf:=HF;rw[jA sM]at hf;clear HF;go_wp21;go_roundg m
     case measure=>omega
     case rel=>exact⟨i+1,q2,by push_cast;rfl,oM,S8,hr8,G8,hf⟩
   |zero=>
    have hf:=FX.o;rw[Mu]at hf;cases hf;obtain⟨a,hfin,hmost⟩:∃a,Rf.Fin l r' a/\Ws t a:=by
     rcases HB2.o with⟨h,_⟩|⟨_,h⟩
     ·cases h
     ·exact h
    have hil:¬(i:Int)<(l.length:Int):=oM;have g9:=zwA wr (.cells #[pT B,ug [],zN] 160) none;have n9:=Ac wr (.cells #[pT B,ug [],zN] 160);have hgz:g5<wr.heap.size:=by
     have⟨_,hs⟩:=SX.o.seen;exact(hs.lt g5 rfl).2
    go_upto_region 14 with fail;obtain⟨w9,hw9⟩:∃w9,wr.alloc (.cells #[pT B,ug [],zN] 160)=w9:=⟨_,rfl⟩;obtain⟨bq,hbq⟩:∃bq,wr.heap.size=bq:=⟨_,rfl⟩;rw[hw9]at g9 n9;rw[hbq]at n9 hgz;have HG:wr.alloc (.cells #[pT B,.string ⟨#[]⟩,zN] 160)=w9:=hw9;rw[HG,hbq];have SHC:=zve (B:=B) (Bq:=bq) (bq:=bq) (bs:=B) (bt:=bt) (l:=l) (bad:=false) (env:=[]) (lv:=.slice pl l.length cl) (ev:=ev2) (sv:=sL g5 (sn.length+1) cap5) (λg e=>by
     have e1:g5=g:=(by simpa[Value.ownBlock]using e);omega) hfin
    have X9:=SHC 0 w9 ([],[]) zN oM ⟨n9,mD _ _ _ _,znL _⟩ (SX.o.grown g9) (by simp[Few]) sM;have G9:=Ab GX.o g9;have hwz:=GX.o.size;clear SHC n9 g9 hw9 HG hfin b1 FX;go_wp21;go_call X9 as e10 w10 ⟨rfl,hk,nv10,hs10⟩;have E0:C7 (rbr a 0) (rin a) ([],[])=rin a ([],[]):=by
     have h0:rbr a 0=false:=(by simp[rbr]);rw[h0];rfl
    have L0:=(Pa a ([],[]) (by simp[Few]) sM).2;have ES:=zns a;rw[E0]at hs10;obtain⟨⟨nmz,out⟩,hout⟩:∃q,rin a ([],[])=q:=⟨_,rfl⟩;rw[hout]at hs10 L0;have hlo:out.length<=6000:=(by simp at L0;omega);obtain⟨-,y1,-⟩:=hs10.cells;dsimp only at y1;have G10:zG w w10:=⟨hk.os.trans G9.os,hk.tape.trans G9.tape,hk.output.trans G9.output,kB G9.size hk.size,λk hk' _=>(hk.low (by have:=hbq;omega) (aB hk' G9.size)).trans (G9.block k hk' sM)⟩;clear hk hs10 E0 L0 X9 G9;by_cases hlong:400<out.length
    ·have hli:(400:Int)<(out.length:Int):=oM;have EZ:a.shown=[46,46,46]:=(by
      rw[<-ES,ze9,hout];exact mA hlong)
     go_wp21
     go_ret2;exact⟨G10,.inr ⟨a,hmost,by rw[EZ];rfl⟩⟩
    ·have hli:¬(400:Int)<(out.length:Int):=oM;have EZ:a.shown=out:=(by
      rw[<-ES,ze9,hout];exact jA hlong)
     go_wp21
     go_ret2;exact⟨G10,.inr ⟨a,hmost,by rw[EZ];rfl⟩⟩
end
section
variable{s:ByteArray}
def zvj(w:World)(s:ByteArray)(b:RR)(e:Ending)(w':World):Prop:=w.grownBy w' none /\
 match b with
 |.fault k p=>e=.returned (.tuple #[.pointer none,.int .i64 k,.int .i64 p])
 |.Ja t _=>∃a,e=.returned (.tuple #[.pointer (some ⟨a,0,none⟩),.int .i64 0,.int .i64 0])/\Rl w' a s t/\w.heap.size<=a
theorem Rl.grown{w w':World}{bt:Nat}{t:Tw.T}(h:Rl w bt s t)(e:zG w w'):Rl w' bt s t:=by
 have⟨a,g,f,b,c,d⟩:=h;exact⟨a,g,f,b,c.grown e,d⟩
theorem Tw.Rf.zex{l:zU}{n:Nat}{i:RR}(h:Kf 6100 n l=some i):∃q,rreadS 6100 l=some q /\
  match i with
  |.fault k p=>q=.error (k,p)\/(k=5/\p=0/\∃t a,q=.ok t/\t.freeS []=none/\Ah t .nil=some a/\a<=2000/\ofS n t=some none)
  |.Ja t sh=>∃a,q=.ok t/\t.freeS []=none/\Ah t .nil=some a/\a<=2000/\ofS n t=some (some sh):=by
 unfold Kf at h;unfold rreadS;split at h
 ·rename_i e;cases h;exact⟨_,mA e,.inl rfl⟩
 ·rename_i e;rw[jA e];unfold Un at h;split at h
  ·rename_i p f;cases h;rw[f];exact⟨_,rfl,.inl rfl⟩
  ·rename_i m f;rw[f];have⟨r,j,h⟩:=zbE.1 h;dsimp only;rw[j,zbS];cases r with
   |error p=>
    cases h;exact⟨_,rfl,.inl rfl⟩
   |ok t=>
    dsimp only at h ⊢;unfold Oa at h;cases b:t.freeS []with
    |some p=>
     rw[b]at h;cases h;exact⟨_,rfl,.inl rfl⟩
    |none=>
     rw[b]at h;dsimp only at h ⊢;have⟨k,d,h⟩:=zbE.1 h;rw[d,zbS];split at h
     ·rename_i c;rw[mA c];cases h;exact⟨_,rfl,.inl rfl⟩
     ·rename_i c;rw[jA c];have⟨o,g,h⟩:=zbE.1 h;cases o with
      |none=>
       cases h;exact⟨_,rfl,.inr ⟨rfl,rfl,t,k,rfl,b,d,oM,g⟩⟩
      |some sh=>
       cases h;exact⟨_,rfl,k,rfl,b,d,oM,g⟩
theorem Tw.Wl{t:Tw.T}{a:Ty}(h:Ws t a):Typ t .nil (a.sub λk=>.var k):=(h _).2 ⟨_,rfl⟩
theorem zde{i:Nat}{e:RR}(h:∀n,i<=n->Kf 6100 n s.data.toList=some e)(w:World):Calls prog 40 #[.string s] w (zvj w s e):=by
 have⟨O,v,q⟩:=zex (h i (znL _));have y:=zql v w;have C:∀ {t:Tw.T} {c:Nat},Ah t .nil=some c->c<=2000->(∃n,i<=n/\ofS n t=some none/\∀a,¬Typ t .nil a)\/∃n a,i<=n/\ofS n t=some (some a.shown)/\Ws t a:=λ{t c} j g=>by
  have⟨B,R,z,b⟩:=zd6 j g;rcases b with⟨rfl,b⟩|⟨a,rfl,b⟩
  ·exact .inl ⟨B+i,oM,z _ oM,b⟩
  ·exact .inr ⟨B+i,a,oM,z _ oM,b⟩
 cases O with
 |error kp=>
  have⟨k,p⟩:=kp;obtain rfl:e=.fault k p:=by
   cases e with
   |fault k' p'=>
    rcases q with h|⟨_,_,_,_,h,_⟩
    ·cases h;rfl
    ·cases h
   |Ja t sh=>obtain⟨_,h,_⟩:=q;cases h
  go_in;go_wp21;go_call y as e1 w1 ⟨hg,rfl⟩;go_wp21;go_ret3;exact⟨hg,rfl⟩
 |ok t=>
  obtain⟨c,I,M,N,A⟩:∃c,t.freeS []=none/\Ah t .nil=some c/\c<=2000/\((e=.fault 5 0/\∀a,¬Typ t .nil a)\/((∃sh,e=.Ja t sh)/\∃a,Ws t a)):=by
   cases e with
   |fault k p=>
    rcases q with F|⟨rfl,rfl,Q,c,f,j,g,b,G⟩
    ·cases F
    ·cases f;refine⟨c,j,g,b,.inl ⟨rfl,?_⟩⟩;rcases C g b with⟨_,_,_,l⟩|⟨n,a,o,l,_⟩
     ·exact l
     ·have⟨P,m,L⟩:=zex (h n o);rw[v]at m;cases m;rcases L with d|⟨_,_,_,_,f,_,_,_,d⟩
      ·cases d
      ·cases f;rw[l]at d;cases d
   |Ja Q sh=>
    have⟨c,f,j,g,b,G⟩:=q;cases f;refine⟨c,j,g,b,.inr ⟨⟨sh,rfl⟩,?_⟩⟩;rcases C g b with⟨n,o,l,_⟩|⟨n,a,o,_,d⟩
    ·have⟨P,m,S,f,_,_,_,d⟩:=zex (h n o);rw[v]at m;cases m;cases f;rw[l]at d;cases d
    ·exact⟨a,d⟩
  go_in;go_wp21;go_call y as e1 w1 ⟨hg,bt,rfl,hT,hbt⟩;have E:=zdd hT I M N;go_wp21;go_call E as e2 w2 ⟨hg2,hr⟩;have x:=Ab hg hg2;have D:=hT.grown hg2;rcases hr with⟨rfl,r⟩|⟨a,J,rfl⟩
  ·obtain rfl:e=.fault 5 0:=by
    rcases A with⟨h,_⟩|⟨_,a,H⟩
    ·exact h
    ·exact absurd (Wl H) (r _)
   go_wp21;go_ret3;exact⟨x,rfl⟩
  ·obtain⟨sh,rfl⟩:∃sh,e=.Ja t sh:=by
    rcases A with⟨_,r⟩|⟨h,_⟩
    ·exact absurd (Wl J) (r _)
    ·exact h
   go_wp21;go_ret3;exact⟨x,bt,rfl,D,hbt⟩
end
end
namespace Tw.Rf
section
open Go Go.Proofs.YtckhafpejefbbaaGreatDoor.Tw
section
variable{f:Nat->Nat}{n:Nat}{x:RN}
def ul:T->Nat->Sc->List (Nat×Int)
 |.name fr _ x,_,sc=>[(fr,Cy sc x)]
 |.int ..,_,_|.Ak ..,_,_|.side ..,_,_=>[]
 |.bracket _ _ i,n,sc=>ul i n sc
 |.pair _ _ a b,n,sc|.call _ _ a b,n,sc|.binary _ _ _ a b,n,sc=>ul a n sc++ul b (n+T.sz a) sc
 |.cond _ _ c a b,n,sc=>ul c n sc++ul a (n+T.sz c) sc++ul b (n+T.sz c+T.sz a) sc
 |.fn _ _ bn _ b,n,sc=>ul b n ((bn,n+T.sz b)::sc)
 |.Am _ _ rc bn _ d b,n,sc=>ul d n (if rc then(bn,n+T.sz d+T.sz b)::sc else sc)++ul b (n+T.sz d) ((bn,n+T.sz d+T.sz b)::sc)
def bl:T->Nat->List (T×Nat)
 |.name ..,_|.int ..,_|.Ak ..,_|.side ..,_=>[]
 |.bracket _ _ i,n=>bl i n
 |.pair _ _ a b,n|.call _ _ a b,n|.binary _ _ _ a b,n=>bl a n++bl b (n+T.sz a)
 |.cond _ _ c a b,n=>bl c n++(bl a (n+T.sz c)++bl b (n+T.sz c+T.sz a))
 |.fn f t bn k b,n=>(.fn f t bn k b,n+T.sz b)::bl b n
 |.Am f t rc bn k d b,n=>(.Am f t rc bn k d b,n+T.sz d+T.sz b)::(bl d n++bl b (n+T.sz d))
theorem Gs:∀(t:T) (n:Nat),(bl t n).map (·.1)=t.binds
 |.name ..,_|.int ..,_|.Ak ..,_|.side ..,_=>rfl
 |.bracket _ _ i,n=>Gs i n
 |.pair _ _ a b,n|.call _ _ a b,n|.binary _ _ _ a b,n=>by simp[bl,T.binds,Gs a,Gs b]
 |.cond _ _ c a b,n=>by simp[bl,T.binds,Gs c,Gs a,Gs b]
 |.fn _ _ _ _ b,n=>by simp[bl,T.binds,Gs b]
 |.Am _ _ _ _ _ d b,n=>by simp[bl,T.binds,Gs d,Gs b]
theorem Vf:∀(sc:Sc) (x:zU),Cy sc x = -1\/∃e∈sc,(e.2:Int)=Cy sc x
 |[],_=>.inl rfl
 |(y,j)::sc,x=>by
  rw[Cy];split
  ·exact .inr ⟨(y,j),sM,rfl⟩
  ·rcases Vf sc x with h|⟨e,a,h⟩
   ·exact .inl h
   ·exact .inr ⟨e,by simp[a],h⟩
theorem Mh:∀(t:T) (n:Nat),∀q∈bl t n,n<=q.2/\q.2<n+T.sz t
 |.name ..,_,q,h|.int ..,_,q,h|.Ak ..,_,q,h|.side ..,_,q,h=>by cases h
 |.bracket _ _ i,n,q,h=>by have:=Mh i n q h;simp only[T.sz];omega
 |.pair _ _ a b,n,q,h|.call _ _ a b,n,q,h|.binary _ _ _ a b,n,q,h=>by
  simp only[T.sz];rcases zmA.1 h with h|h
  ·have:=Mh a n q h;omega
  ·have:=Mh b _ q h;omega
 |.cond _ _ c a b,n,q,h=>by
  simp only[T.sz];rcases zmA.1 h with h|h
  ·have:=Mh c n q h;omega
  ·rcases zmA.1 h with h|h
   ·have:=Mh a _ q h;omega
   ·have:=Mh b _ q h;omega
 |.fn _ _ _ _ b,n,q,h=>by
  simp only[T.sz];rcases zmC.1 h with rfl|h
  ·dsimp only;omega
  ·have:=Mh b n q h;omega
 |.Am _ _ _ _ _ d b,n,q,h=>by
  simp only[T.sz];rcases zmC.1 h with rfl|h
  ·dsimp only;omega
  ·rcases zmA.1 h with h|h
   ·have:=Mh d n q h;omega
   ·have:=Mh b _ q h;omega
theorem I6:∀(t:T) (n:Nat) (sc:Sc) (k:Nat),(∀e∈sc,e.2≠k)->(k<n\/n+T.sz t<=k)->∀fr,(fr,(k:Int))∉ul t n sc
 |.name f _ x,n,sc,k,h,_,fr,g=>by
  simp only[ul,xB,zpI]at g;rcases Vf sc x with m|⟨e,j,m⟩
  ·omega
  ·have:=h e j;omega
 |.int ..,n,sc,k,h,_,fr,g|.Ak ..,n,sc,k,h,_,fr,g|.side ..,n,sc,k,h,_,fr,g=>by cases g
 |.bracket _ _ i,n,sc,k,h,hk,fr,g=>I6 i n sc k h (by simp only[T.sz]at hk;omega) fr g
 |.pair _ _ a b,n,sc,k,h,hk,fr,g|.call _ _ a b,n,sc,k,h,hk,fr,g|.binary _ _ _ a b,n,sc,k,h,hk,fr,g=>by
  simp only[T.sz]at hk;rcases zmA.1 g with g|g
  ·exact I6 a n sc k h oM fr g
  ·exact I6 b _ sc k h oM fr g
 |.cond _ _ c a b,n,sc,k,h,hk,fr,g=>by
  simp only[T.sz]at hk;rcases zmA.1 g with g|g
  ·rcases zmA.1 g with g|g
   ·exact I6 c n sc k h oM fr g
   ·exact I6 a _ sc k h oM fr g
  ·exact I6 b _ sc k h oM fr g
 |.fn _ _ bn _ b,n,sc,k,h,hk,fr,g=>by
  simp only[T.sz]at hk;refine I6 b n _ k (λe j=>?_) oM fr g;rcases zmC.1 j with rfl|j
  ·dsimp only;omega
  ·exact h e j
 |.Am _ _ rc bn _ d b,n,sc,k,h,hk,fr,g=>by
  simp only[T.sz]at hk;have l:∀e∈((bn,n+T.sz d+T.sz b)::sc:Sc),e.2≠k:=λe j=>by
   rcases zmC.1 j with rfl|j
   ·dsimp only;omega
   ·exact h e j
  rcases zmA.1 g with g|g
  ·cases rc
   ·exact I6 d n _ k h oM fr g
   ·exact I6 d n _ k l oM fr g
  ·exact I6 b _ _ k l oM fr g
def zrw(sc:Sc)(k:Nat)(x:zU)(I:List zU):Prop:=∀y,Cy sc y=(k:Int)↔y=x/\y∉I
theorem zrw.cons{sc:Sc}{k:Nat}{x:zU}{I:List zU}(h:zrw sc k x I)(z:zU){j:Nat}(b:j≠k):zrw ((z,j)::sc) k x (z::I):=λy=>by
 rw[Cy];by_cases a:z=y
 ·rw[mA a];subst a;constructor
  ·intro e;omega
  ·rintro⟨_,h⟩;simp at h
 ·rw[jA a,h y];have:y≠z:=λe=>a e.symm;simp[this]
theorem Kx:∀(t:T) (n:Nat) (sc:Sc) (k:Nat) (x:zU) (I:List zU),zrw sc k x I->(k<n\/n+T.sz t<=k)->∀fr,(fr,(k:Int))∈ul t n sc↔fr∈t.occ x I
 |.name f _ z,n,sc,k,x,I,h,_,fr=>by
  have:=h z;by_cases o:z=x/\x∉I
  ·obtain⟨rfl,r⟩:=o;have m:Cy sc z=(k:Int):=this.2 ⟨rfl,r⟩;simp[ul,T.occ,r,m]
  ·have m:¬Cy sc z=(k:Int):=λl=>o ⟨(this.1 l).1,by have:=this.1 l;rw[<-this.1];exact this.2⟩;have v:¬(k:Int)=Cy sc z:=λl=>m l.symm;simp[ul,T.occ,o,v]
 |.int ..,n,sc,k,x,I,h,_,fr|.Ak ..,n,sc,k,x,I,h,_,fr|.side ..,n,sc,k,x,I,h,_,fr=>by simp[ul,T.occ]
 |.bracket _ _ i,n,sc,k,x,I,h,hk,fr=>Kx i n sc k x I h (by simp only[T.sz]at hk;omega) fr
 |.pair _ _ a b,n,sc,k,x,I,h,hk,fr|.call _ _ a b,n,sc,k,x,I,h,hk,fr|.binary _ _ _ a b,n,sc,k,x,I,h,hk,fr=>by
  simp only[T.sz]at hk;have e:=Kx a n sc k x I h oM fr;have g:=Kx b (n+T.sz a) sc k x I h oM fr;simp only[ul,T.occ,zmA,e,g]
 |.cond _ _ c a b,n,sc,k,x,I,h,hk,fr=>by
  simp only[T.sz]at hk;have s:=Kx c n sc k x I h oM fr;have e:=Kx a (n+T.sz c) sc k x I h oM fr;have g:=Kx b (n+T.sz c+T.sz a) sc k x I h oM fr;simp only[ul,T.occ,zmA,s,e,g,or_assoc]
 |.fn _ _ bn _ b,n,sc,k,x,I,h,hk,fr=>by
  simp only[T.sz]at hk;exact Kx b n _ k x _ (h.cons bn oM) oM fr
 |.Am _ _ rc bn _ d b,n,sc,k,x,I,h,hk,fr=>by
  simp only[T.sz]at hk;have p:=h.cons bn (j:=n+T.sz d+T.sz b) oM;simp only[ul,T.occ,zmA];have g:=Kx b (n+T.sz d) _ k x _ p oM fr;rw[g];cases rc
  ·have e:=Kx d n _ k x _ h oM fr;simp[e]
  ·have e:=Kx d n _ k x _ p oM fr;simp[e]
theorem zhf{sc:Sc}{k:Nat}(h:∀e∈sc,e.2≠k)(x:zU):zrw ((x,k)::sc) k x []:=λy=>by
 rw[Cy];by_cases a:x=y
 ·simp[a]
 ·rw[jA a];have:¬y=x:=λe=>a e.symm;simp only[this,false_and,iff_false];intro e;rcases Vf sc y with b|⟨q,c,b⟩
  ·omega
  ·have:=h q c;omega
theorem Pn:∀(t:T) (n:Nat) (sc:Sc),(∀e∈sc,n+T.sz t<=e.2)->∀q∈bl t n,∀fr,(fr,(q.2:Int))∈ul t n sc↔fr∈q.1.useS
 |.name ..,_,_,_,q,h,_|.int ..,_,_,_,q,h,_|.Ak ..,_,_,_,q,h,_|.side ..,_,_,_,q,h,_=>by cases h
 |.bracket _ _ i,n,sc,hs,q,h,fr=>Pn i n sc (λe g=>by have:=hs e g;simp only[T.sz]at this;omega) q h fr
 |.pair _ _ a b,n,sc,hs,q,h,fr|.call _ _ a b,n,sc,hs,q,h,fr|.binary _ _ _ a b,n,sc,hs,q,h,fr=>by
  simp only[T.sz]at hs;simp only[ul,zmA];rcases zmA.1 h with h|h
  ·have j:=Mh a n q h;rw[Pn a n sc (λe g=>by have:=hs e g;omega) q h fr]
   have:=I6 b (n+T.sz a) sc q.2 (λe g=>by have:=hs e g;omega) oM fr;simp[this]
  ·have j:=Mh b _ q h;rw[Pn b _ sc (λe g=>by have:=hs e g;omega) q h fr]
   have:=I6 a n sc q.2 (λe g=>by have:=hs e g;omega) oM fr;simp[this]
 |.cond _ _ c a b,n,sc,hs,q,h,fr=>by
  simp only[T.sz]at hs;simp only[ul,zmA];rcases zmA.1 h with h|h
  ·have j:=Mh c n q h;rw[Pn c n sc (λe g=>by have:=hs e g;omega) q h fr];have l:=I6 a (n+T.sz c) sc q.2 (λe g=>by have:=hs e g;omega) oM fr;have m:=I6 b (n+T.sz c+T.sz a) sc q.2 (λe g=>by have:=hs e g;omega) oM fr;simp[l,m]
  ·rcases zmA.1 h with h|h
   ·have j:=Mh a _ q h;rw[Pn a _ sc (λe g=>by have:=hs e g;omega) q h fr];have l:=I6 c n sc q.2 (λe g=>by have:=hs e g;omega) oM fr;have m:=I6 b (n+T.sz c+T.sz a) sc q.2 (λe g=>by have:=hs e g;omega) oM fr;simp[l,m]
   ·have j:=Mh b _ q h;rw[Pn b _ sc (λe g=>by have:=hs e g;omega) q h fr];have l:=I6 c n sc q.2 (λe g=>by have:=hs e g;omega) oM fr;have m:=I6 a (n+T.sz c) sc q.2 (λe g=>by have:=hs e g;omega) oM fr;simp[l,m]
 |.fn _ _ bn _ b,n,sc,hs,q,h,fr=>by
  simp only[T.sz]at hs;rcases zmC.1 h with rfl|h
  ·exact Kx b n _ _ bn [] (zhf (λe g=>by have:=hs e g;omega) bn) oM fr
  ·exact Pn b n _ (λe g=>by
    rcases zmC.1 g with rfl|g
    ·exact znL _
    ·have:=hs e g;omega) q h fr
 |.Am _ _ rc bn _ d b,n,sc,hs,q,h,fr=>by
  simp only[T.sz]at hs;have p:=zhf (sc:=sc) (k:=n+T.sz d+T.sz b) (λe g=>by have:=hs e g;omega) bn;have o:∀e∈((bn,n+T.sz d+T.sz b)::sc:Sc),n+T.sz d+T.sz b<=e.2:=λe g=>by
   rcases zmC.1 g with rfl|g
   ·exact znL _
   ·have:=hs e g;omega
  have r:∀e∈(if rc then(bn,n+T.sz d+T.sz b)::sc else sc:Sc),n+T.sz d+T.sz b<=e.2:=λe g=>by
   cases rc
   ·have:=hs e g;omega
   ·exact o e g
  simp only[ul,zmA];rcases zmC.1 h with rfl|h
  ·dsimp only[T.useS];rw[zmA,Kx b _ _ _ bn [] p oM];cases rc
   ·have:=I6 d n sc (n+T.sz d+T.sz b) (λe g=>by have:=hs e g;omega) oM fr;constructor
    ·rintro(h|h)
     ·exact absurd h this
     ·exact .inr h
    ·rintro(h|h)
     ·cases h
     ·exact .inr h
   ·rw[mA rfl,mA rfl,Kx d n _ _ bn [] p oM]
  ·rcases zmA.1 h with h|h
   ·have j:=Mh d n q h;rw[Pn d n _ (λe g=>by have:=r e g;omega) q h fr]
    have:=I6 b (n+T.sz d) _ q.2 (λe g=>by have:=o e g;omega) oM fr;simp[this]
   ·have j:=Mh b _ q h;rw[Pn b _ _ (λe g=>by have:=o e g;omega) q h fr]
    have:=I6 d n _ q.2 (λe g=>by have:=r e g;omega) oM fr;simp[this]
def isB(x:RN):Bool:=x.sort==108||x.sort==114||x.sort==70
structure Mg(f:Nat->Nat)(X:List RN)(L:List (T×Nat))(U:List (Nat×Int))(n:Nat):Prop where
 has:∀q∈L,n<=q.2/\∃x,X[q.2-n]?=some x/\isB x=true/\x.name=f q.1.bpl
 only:∀i x,X[i]?=some x->isB x=true->∃q∈L,q.2=n+i/\x.name=f q.1.bpl
 used:∀u∈U,∃x∈X,x.sort=120/\x.first=f u.1/\x.binder=u.2
 Fm:∀x∈X,x.sort=120->∃u∈U,x.first=f u.1/\x.binder=u.2
theorem Mg.app{A C:List RN}{L1 L2:List (T×Nat)}{o p:List (Nat×Int)}{m:Nat}(h:Mg f A L1 o n)(k:Mg f C L2 p m)(w:m=n+A.length):Mg f (A++C) (L1++L2) (o++p) n where
 has:=λq b=>by
  rcases zmA.1 b with b|b
  ·obtain⟨a,x,e,j⟩:=h.has q b;exact⟨a,x,by rw[iA (zlE.1 e).1];exact e,j⟩
  ·obtain⟨a,x,e,j⟩:=k.has q b;exact⟨oM,x,by rw[fB oM,show q.2-n-A.length=q.2-m by omega];exact e,j⟩
 only:=λv x i r=>by
  rcases yB v A.length with l|l
  ·rw[iA l]at i;obtain⟨q,b,a⟩:=h.only v x i r;exact⟨q,eD _ b,a⟩
  ·rw[fB l]at i;obtain⟨q,b,a,e⟩:=k.only _ x i r;exact⟨q,bD _ b,oM,e⟩
 used:=λg c=>by
  rcases zmA.1 c with c|c
  ·obtain⟨x,d,a⟩:=h.used g c;exact⟨x,eD _ d,a⟩
  ·obtain⟨x,d,a⟩:=k.used g c;exact⟨x,bD _ d,a⟩
 Fm:=λx d s=>by
  rcases zmA.1 d with d|d
  ·obtain⟨g,c,a⟩:=h.Fm x d s;exact⟨g,eD _ c,a⟩
  ·obtain⟨g,c,a⟩:=k.Fm x d s;exact⟨g,bD _ c,a⟩
theorem Mg.one(d:isB x=false)(e:x.sort≠120)(n:Nat):Mg f [x] [] [] n where
 has:=λq g=>by cases g
 only:=λi y b a=>by
  cases i with
  |zero=>cases b;rw[d]at a;cases a
  |succ i=>simp at b
 used:=λk j=>by cases j
 Fm:=λy c h=>by simp at c;subst c;exact absurd h e
theorem Mg.bind{t:T}(e:isB x=true)(g:x.sort≠120)(a:x.name=f t.bpl)(n:Nat):Mg f [x] [(t,n)] [] n where
 has:=λq c=>by simp at c;subst c;exact⟨znL _,x,sM,e,a⟩
 only:=λi y b k=>by
  cases i with
  |zero=>cases b;exact⟨_,xB.2 rfl,rfl,a⟩
  |succ i=>simp at b
 used:=λl j=>by cases j
 Fm:=λy d h=>by simp at d;subst d;exact absurd h g
theorem Mg.same{X:List RN}{L d:List (T×Nat)}{U e:List (Nat×Int)}(h:Mg f X L U n)(g:∀q,q∈d↔q∈L)(i:∀u,u∈e↔u∈U):Mg f X d e n where
 has:=λq b=>h.has q ((g q).1 b)
 only:=λo x k j=>by obtain⟨q,b,a⟩:=h.only o x k j;exact⟨q,(g q).2 b,a⟩
 used:=λu c=>h.used u ((i u).1 c)
 Fm:=λx m l=>by obtain⟨u,c,a⟩:=h.Fm x m l;exact⟨u,(i u).2 c,a⟩
theorem zn8(a:Int)(h:x.sort=Gf a):isB x=false:=by
 have:Gf a=43\/Gf a=45\/Gf a=42\/Gf a=47\/Gf a=60\/Gf a=61:=by
  unfold Gf
  repeat' split
  all_goals simp
 unfold isB;rw[h];rcases this with e|e|e|e|e|e<;>rw[e]<;>rfl
theorem Hy(f g:Nat->Nat):∀(t:T) (n:Nat) (sc:Sc),Mg f (fill f g t n sc) (bl t n) (ul t n sc) n
 |.name fr _ x,n,sc=>{
   has:=λq m=>by cases m
   only:=λi y hi l=>by
    cases i with
    |zero=>cases hi;cases l
    |succ i=>simp[fill]at hi
   used:=λu e=>by simp[ul]at e;subst e;exact⟨_,xB.2 rfl,rfl,rfl,rfl⟩
   Fm:=λy j o=>by simp[fill]at j;subst j;exact⟨_,xB.2 rfl,rfl,rfl⟩}
 |.int ..,n,sc=>Mg.one rfl sM n
 |.Ak _ _ b,n,sc=>Mg.one (by cases b<;>rfl) (by cases b<;>simp) n
 |.side _ _ b,n,sc=>Mg.one (by cases b<;>rfl) (by cases b<;>simp) n
 |.bracket _ _ i,n,sc=>((Hy f g i n sc).app (Mg.one (by rfl) sM _) rfl).same (by simp[bl]) (by simp[ul])
 |.pair _ _ a b,n,sc=>(((Hy f g a n sc).app (Hy f g b (n+T.sz a) sc) (by rw[Af])).app (Mg.one (by rfl) sM _) rfl).same (by simp[bl]) (by simp[ul])
 |.call _ _ a b,n,sc=>(((Hy f g a n sc).app (Hy f g b (n+T.sz a) sc) (by rw[Af])).app (Mg.one (by rfl) sM _) rfl).same (by simp[bl]) (by simp[ul])
 |.binary _ _ sg a b,n,sc=>(((Hy f g a n sc).app (Hy f g b (n+T.sz a) sc) (by rw[Af])).app (Mg.one (zn8 sg rfl) (Wh _) _) rfl).same (by simp[bl]) (by simp[ul])
 |.cond _ _ c a b,n,sc=>((((Hy f g c n sc).app (Hy f g a (n+T.sz c) sc) (by rw[Af])).app (Hy f g b (n+T.sz c+T.sz a) sc) (by rw[eA,Af,Af];omega)).app (Mg.one (by rfl) sM _) rfl).same (by simp[bl]) (by simp[ul])
 |.fn fr t0 bn k b,n,sc=>((Hy f g b n ((bn,n+T.sz b)::sc)).app (Mg.bind (t:=.fn fr t0 bn k b) (by rfl) sM (by rfl) (n+T.sz b)) (by rw[Af])).same (λq=>by simp[bl,or_comm]) (λu=>by simp[ul])
 |.Am fr t0 rc bn k d b,n,sc=>(((Hy f g d n (if rc then(bn,n+T.sz d+T.sz b)::sc else sc)).app (Hy f g b (n+T.sz d) ((bn,n+T.sz d+T.sz b)::sc)) (by rw[Af])).app (Mg.bind (t:=.Am fr t0 rc bn k d b) (by cases rc<;>rfl) (by cases rc<;>simp) (by rfl) (n+T.sz d+T.sz b)) (by rw[eA,Af,Af];omega)).same (λq=>by simp only[bl,zmC,zmA];constructor<;>rintro(h|h)<;>simp_all) (λu=>by simp[ul])
theorem Gt:∀(t:T) (n:Nat) (sc:Sc),((ul t n sc).map (·.1)).Sublist t.places
 |.name ..,_,_=>List.Sublist.refl _
 |.int ..,_,_|.Ak ..,_,_|.side ..,_,_=>List.Sublist.refl _
 |.bracket _ _ i,n,sc=>Gt i n sc
 |.pair _ _ a b,n,sc|.call _ _ a b,n,sc|.binary _ _ _ a b,n,sc=>by
  simp only[ul,T.places,vB];exact(Gt a n sc).append (Gt b _ sc)
 |.cond _ _ c a b,n,sc=>by
  simp only[ul,T.places,vB,wA];exact(Gt c n sc).append ((Gt a _ sc).append (Gt b _ sc))
 |.fn _ _ _ _ b,n,sc=>(Gt b n _).cons _
 |.Am _ _ _ _ _ d b,n,sc=>by
  simp only[ul,T.places,vB];exact((Gt d n _).append (Gt b _ _)).cons _
theorem Gu:∀t:T,(t.binds.map (·.bpl)).Sublist t.places
 |.name .. =>List.nil_sublist _
 |.int ..|.Ak ..|.side .. =>List.Sublist.refl _
 |.bracket _ _ i=>Gu i
 |.pair _ _ a b|.call _ _ a b|.binary _ _ _ a b=>by
  simp only[T.binds,T.places,vB];exact(Gu a).append (Gu b)
 |.cond _ _ c a b=>by
  simp only[T.binds,T.places,vB];exact(Gu c).append ((Gu a).append (Gu b))
 |.fn _ _ _ _ b=>(Gu b).cons_cons _
 |.Am _ _ _ _ _ d b=>by
  simp only[T.binds,T.places,vB,List.map_cons];exact((Gu d).append (Gu b)).cons_cons _
theorem Wm{d :Type}{k :d -> Nat}:∀ {L:List d},(L.map k).Pairwise (· < ·)->∀ {a b :d},a∈L->b∈L->k a=k b->a=b
 |[],_,_,_,h,_,_=>by cases h
 |x::L,h,a,b,ha,c,e=>by
  rw[List.map_cons,List.pairwise_cons]at h;rcases zmC.1 ha with rfl|_
  ·rcases zmC.1 c with rfl|c
   ·rfl
   ·have:=h.1 (k b) (List.mem_map_of_mem c);omega
  ·rename_i g;rcases zmC.1 c with rfl|c
   ·have:=h.1 (k a) (List.mem_map_of_mem g);omega
   ·exact Wm h.2 g c e
def Dv(N:List RN)(i:Nat):Int:=match N.findIdx? (λx=>isB x&&x.name==i)with
 |some k=>(k:Int)
 |none=>-1
def zdk(N:List RN)(i:Nat):Int:=match N.find? (λx=>x.sort==120&&x.first==i)with
 |some x=>x.binder
 |none=>-1
section
variable {f:Nat -> Nat}{N:List RN}{t:T}
variable{q:T×Nat}
theorem zvf(c:t.places.Pairwise (· < ·)){a:T×Nat}(h:q∈bl t 0)(b:a∈bl t 0)(e:q.1.bpl=a.1.bpl):q=a:=by
 have d:((bl t 0).map λq=>q.1.bpl).Pairwise (· < ·):=by
  have:((bl t 0).map λq=>q.1.bpl)=t.binds.map (·.bpl):=by rw[<-Gs t 0,List.map_map];rfl
  rw[this];exact c.sublist (Gu t)
 exact Wm d h b e
theorem zhg(h:q∈bl t 0):q.1.bpl∈t.places:=Cv t q.1 (by rw[<-Gs t 0];exact List.mem_map_of_mem h)
theorem zkd(d:Mg f N (bl t 0) (ul t 0 []) 0)(i:t.places.Pairwise (· < ·))(g:∀p q,p∈t.places->f p=f q->p=q)(b:q∈bl t 0):Dv N (f q.1.bpl)=(q.2:Int):=by
 unfold Dv;cases h:N.findIdx? (λx=>isB x&&x.name==f q.1.bpl)with
 |none=>
  obtain⟨_,x,o,e,l⟩:=d.has q b;rw[List.findIdx?_eq_none_iff]at h
  have:=h x (dD o);simp[e,l]at this
 |some k=>
  obtain⟨j,a,_⟩:=List.findIdx?_eq_some_iff_getElem.1 h;simp at a;obtain⟨s,m,r,c⟩:=d.only k N[k] (fA j) a.1;rw[a.2]at c
  have:=zvf i b m (g _ _ (zhg b) c);subst this;dsimp only;omega
theorem zn9(c:Mg f N (bl t 0) (ul t 0 []) 0){i:Nat}(hi:∀q∈bl t 0,f q.1.bpl≠i):Dv N i = -1:=by
 unfold Dv;cases h:N.findIdx? (λx=>isB x&&x.name==i)with
 |none=>rfl
 |some k=>
  obtain⟨d,a,_⟩:=List.findIdx?_eq_some_iff_getElem.1 h;simp at a;obtain⟨g,e,j,b⟩:=c.only k N[k] (fA d) a.1;rw[a.2]at b;exact absurd b.symm (hi g e)
theorem ztj(j:Mg f N (bl t 0) (ul t 0 []) 0)(v:t.places.Pairwise (· < ·))(s:∀p q,p∈t.places->f p=f q->p=q)(w:q∈bl t 0){p:Nat}:zdk N (f p)=(q.2:Int)↔p∈q.1.useS:=by
 have d:=Pn t 0 [] (λe r=>by cases r) q w p;have z:∀b∈ul t 0 [],b.1∈t.places:=λb d=>(Gt t 0 []).mem (List.mem_map_of_mem d);have y:((ul t 0 []).map (·.1)).Pairwise (· < ·):=v.sublist (Gt t 0 []);rw[<-d];unfold zdk;cases h:N.find? (λx=>x.sort==120&&x.first==f p)with
 |none=>
  constructor
  ·intro e;dsimp only at e;omega
  ·intro c;obtain⟨x,i,a,o,_⟩:=j.used _ c;rw[List.find?_eq_none]at h;exact absurd (h x i) (by simp[a,o])
 |some x=>
  have i:=List.mem_of_find?_eq_some h;have a:=List.find?_some h;simp at a;obtain⟨b,g,k,l⟩:=j.Fm x i a.1;rw[a.2]at k;have e:=s _ _ (z b g) k.symm;dsimp only;constructor
  ·intro m;rw[<-m,l,<-e];exact g
  ·intro c
   have:=Wm y g c e;rw[l,this]
end
end
end
end Tw.Rf
section
open Tw Tw.Rf Go.Proofs.Tryz
open Go.RowKit
section
section
variable {w:World}{B bt:Nat}{s:ByteArray}{body:List Tw.Tok}{N:List Tw.Rf.RN}{tv nv:Value}{root er:Int}
variable{α:Type}
theorem zey{p :α -> Bool}{l:List α}(h:∀(j:Nat) (x :α),l[j]?=some x->p x=false):l.findIdx? p=none:=by
 rw[List.findIdx?_eq_none_iff];intro x b;have⟨j,a⟩:=List.getElem?_of_mem b;exact h j x a
theorem zez{p :α -> Bool}{l:List α}{k:Nat}{x :α}(c:l[k]?=some x)(d:p x=true)(h:∀j:Nat,j<k->∀y :α,l[j]?=some y->p y=false):l.findIdx? p=some k:=by
 rw[List.findIdx?_eq_some_iff_getElem];obtain⟨a,rfl⟩:=zlE.1 c;exact⟨a,d,λj b=>by simp[h j b _ (List.getElem?_eq_getElem oM)]⟩
theorem Tv{a:Nat}{z:Int}(h:(a:Int)=z)(b:Nat):(a==b)=(z==(b:Int)):=by
 subst h;rw[Bool.eq_iff_iff];constructor
 ·intro h;have:=beq_iff_eq.1 h;exact beq_iff_eq.2 oM
 ·intro h;have:=beq_iff_eq.1 h;exact beq_iff_eq.2 oM
theorem zhh (h:RT w B bt s body N tv nv root er) (i:Nat):Calls prog 124 #[pT bt,vI i] w fun e w'=>e = .returned (vI (Rf.Dv N i))/\zG w w':=by
  have hfew:=h.few
  have⟨_,_,t2,_,_⟩:=h.cells
  obtain⟨pn,cn,rfl⟩:∃p c,nv=.slice p N.length c:=by
    rcases h.nodes.2 with⟨e1,e2⟩|⟨g2,cap2,_,e1,_⟩
    · exact ⟨_,_,by rw [e1,e2]⟩
    · exact ⟨_,_,e1⟩
  obtain⟨r,hr⟩:∃r,Rf.Dv N i=r:=⟨_,rfl⟩
  rw[hr]
  have H:=h
  go_in
  go_wp21
  go_loopg[5] N.length (λm kv wr=>∃k:Nat,kv=vI k/\wr=w/\k+m=N.length/\Hid (∀j,j<k->∀y,N[j]?=some y->(isB y&&y.name==i)=false))
  case atStart=>exact⟨0,rfl,rfl,oM,bV (λj hj=>oM)⟩
  case round=>
    obtain⟨k,rfl,rfl,hk,HK⟩:=hrel
    rcases jD (show k<=N.length by omega)with he|hlt
    · have hkl:¬(k:Int)<(N.length:Int):=oM
      have HX:Hid (r = -1):=bV (by
        rw [<-hr,Rf.Dv,zey (fun j x hx=>HK.o j (by have:=(zlE.1 hx).1; omega) x hx)])
      go_wp21
      go_ret
      exact⟨by rw[HX.o];rfl,Aa _⟩
    · have hkl:(k:Int)<(N.length:Int):=oM
      obtain⟨x,hx⟩:∃x,N[k]?=some x:=⟨_,fA hlt⟩
      have⟨g,cap,e,d0,d1,d2,d3,d4,d5,d6,d7,d8,_⟩:=H.node hx
      cases e
      obtain⟨so,hso⟩:∃so:Int,(x.sort:Int)=so:=⟨_,rfl⟩
      obtain⟨nm,hnm⟩:∃nm:Int,(x.name:Int)=nm:=⟨_,rfl⟩
      rw[hso]at d0
      rw[hnm]at d6
      have hb:isB x=((so==108||so==114)||so==70):=by
        unfold isB
        rw[Tv hso 108,Tv hso 114,Tv hso 70]
        rfl
      have hn:(x.name==i)=(nm==(i:Int)):=Tv hnm i
      have next:(isB x&&x.name==i)=false->Hid (∀j,j<k+1->∀y,N[j]?=some y->(isB y&&y.name==i)=false):=λhf=>bV λj hj y hy=>by
        rcases Nat.lt_or_eq_of_le (Nat.le_of_lt_succ hj)with h|rfl
        · exact HK.o j h y hy
        · rw [hx] at hy; cases hy; exact hf
      have here:(isB x&&x.name==i)=true->Hid (r=(k:Int)):=fun hf=>bV (by
        rw [<-hr,Rf.Dv,zez hx hf HK.o])
      rw[hb,hn]at next here
      have NX:=bV next
      have HE:=bV here
      cases b1:so==108<;>cases b2:so==114<;>cases b3:so==70<;>cases b4:nm==(i:Int)
      all_goals
        first
          | (have N2:=NX.o (by rw [b1,b2,b3,b4]; rfl)
             go_wp21
             go_roundg (N.length-(k+1))
             case measure=>omega
             case rel=>exact ⟨k+1,by push_cast; rfl,rfl,oM,N2⟩)
          | (have H2:=HE.o (by rw [b1,b2,b3,b4]; rfl)
             go_wp21
             go_ret
             exact ⟨by rw [H2.o]; rfl,Aa _⟩)
theorem zoa(h:RT w B bt s body N tv nv root er)(i:Nat):Calls prog 125 #[pT bt,vI i] w λe w'=>e=.returned (vI (zdk N i))/\zG w w':=by
 have X:=h.few;have⟨_,_,t2,_,_⟩:=h.cells;obtain⟨Z,L,rfl⟩:∃p c,nv=.slice p N.length c:=by
  rcases h.nodes.2 with⟨b,A⟩|⟨V,J,_,b,_⟩
  ·exact⟨_,_,by rw[b,A]⟩
  ·exact⟨_,_,b⟩
 obtain⟨r,l⟩:∃r,zdk N i=r:=⟨_,rfl⟩;rw[l];go_in;go_wp21;go_loopg[5] N.length (λH G wr=>∃k:Nat,G=vI k/\wr=w/\k+H=N.length/\Hid (r=match(N.drop k).find? (λx=>x.sort==120&&x.first==i)with|some x=>x.binder|none=>-1))
 case atStart=>exact⟨0,rfl,rfl,oM,bV l.symm⟩
 case round=>
  obtain⟨k,rfl,rfl,Y,HK⟩:=hrel;rcases jD (show k<=N.length by omega)with W|F
  ·have E:¬(k:Int)<(N.length:Int):=oM;have q:Hid (r = -1):=bV (by rw[HK.o,List.drop_eq_nil_of_le oM];rfl);go_wp21;go_ret;exact⟨by rw[q.o];rfl,Aa _⟩
  ·have E:(k:Int)<(N.length:Int):=oM;obtain⟨x,n⟩:∃x,N[k]?=some x:=⟨_,fA F⟩;have⟨U,I,e,y,M,O,P,z,Q,R,S,T,_⟩:=h.node n;cases e;obtain⟨so,m⟩:∃so:Int,(x.sort:Int)=so:=⟨_,rfl⟩;obtain⟨d,g⟩:∃d:Int,(x.first:Int)=d:=⟨_,rfl⟩;rw[m]at y;rw[g]at z;have D:N.drop k=x::N.drop (k+1):=by
    obtain⟨C,rfl⟩:=zlE.1 n;exact lD C
   have f:=HK.o;rw[D,List.find?_cons,Tv m 120,Tv g i]at f;have o:=bV f;cases t:so==120<;>cases v:d==(i:Int)
   all_goals
    have j:=o.o;rw[show(so==((120:Nat):Int))=_ from t,v]at j;have a:=bV j
   rotate_left 3
   ·have a:Hid (r=x.binder):=a;go_wp21;go_ret;exact⟨by rw[a.o];rfl,Aa _⟩
   all_goals
    go_wp21;go_roundg (N.length-(k+1))
    case measure=>omega
    case rel=>exact⟨k+1,by push_cast;rfl,rfl,oM,a⟩
end
end
end
end Go.Proofs.YtckhafpejefbbaaGreatDoor
