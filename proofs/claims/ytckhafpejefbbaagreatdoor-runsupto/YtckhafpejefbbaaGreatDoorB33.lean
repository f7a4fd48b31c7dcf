import Derived.Deep.CutRange
import Derived.Test.YtckhafpejefbbaaGreatDoorB31

set_option maxRecDepth 100000
set_option maxHeartbeats 16000000
namespace Go.Proofs.YtckhafpejefbbaaGreatDoor
section
open Tw Tw.Rf Go.Proofs.Tryz
open Go.RowKit
section
def cpV:Option Nat->Value
 |none=>.int .i64 (-1)
 |some c=>.int .i64 c
section
variable {w w':World}{B bs bt:Nat}{l:List Tw.Rf.RC}{bad:Bool}{env:List Bnd}{lv lv' ev sv:Value}
variable{e:TypeId}{v:Value}{xs:List Value}
theorem Bf.blk{B:Nat}(h:Bf w B e v xs){g:Nat}(a:v.ownBlock=some g):∃c,zH w g c e:=by
 rcases h.2 with⟨b,_⟩|⟨j,f,i,b,_,d,_⟩
 ·rw[b]at a;simp[Value.ownBlock]at a
 ·rw[b]at a;simp[Value.ownBlock]at a;subst a;exact⟨_,d⟩
theorem Bf.sf{Br:Nat}(j:Bf w Br e v xs)(h:ST w B bs bt l bad env lv ev sv)(m:StS.contains e=false){x:Option Nat}(f:SF bs x lv lv' w w')(n:∀g,v.ownBlock=some g->some g≠x):Bf w' Br e v xs:=
 j.kept λg i=>by
  have⟨c,d⟩:=j.blk i;have k:¬(g=bs\/some g=lv.ownBlock):=λe=>by
   have⟨_,o,p,a,b⟩:=h.blocks e;rw[d]at a;cases a;rw[m]at b;cases b
  exact f.block (zgE.1 d).1 (λe=>k (.inl e)) (λe=>k (.inr e)) (n g i)
theorem ST.zrr(h:ST w B bs bt l bad env lv ev sv){nb:Nat}{c:Array Value}(q:w.heap[nb]?=some (.cells c 281 (0,0)))(r:lv.ownBlock≠some nb)(j:w.grownBy w' (some nb)):ST w' B bs bt l bad env lv ev sv:=by
 have k:∀(g:Nat) {d:TypeId} (c:Array Value),d≠281->w.heap[g]?=some (Obj.cells c d (0,0))->w'.heap[g]?=some (Obj.cells c d (0,0)):=λg _ c t a=>(j.block _ (zgE.1 a).1 (λe=>by cases e;rw[q]at a;cases a;exact t rfl)).trans a;have⟨seen,s⟩:=h.seen;refine{h with store:=k _ _ dZ h.store,types:=⟨h.types.1,?_⟩,Ly:=Ai h.Ly λg c a=>k g c dZ a,seen:=⟨seen,Ai s λg c a=>k g c dZ a⟩};rcases h.types.2 with b|⟨i,o,p,b,m,f,n⟩
 ·exact .inl b
 ·exact .inr ⟨i,o,p,b,m,(j.block i (zgE.1 f).1 (λe=>by cases e;exact r (by rw[b];rfl))).trans f,n⟩
end
variable{bs nb:Nat}{x:Option Nat}{lv lv':Value}{w w':World}
theorem SF.zlh{j:Nat}(f:SF bs x lv lv' w w')(h:w.heap.size<=nb)(u:Value):SF bs x lv lv' w (w'.setCell (aD nb j) u):=
 {f with size:=by have:=f.size;simpa using this,block:=λ{k} a b c d=>(aA w' (aD nb j) k u (by simp;omega)).trans (f.block a b c d)}
theorem SF.ne(f:SF bs x lv lv' w w')(h:lv.ownBlock≠some nb)(a:nb<w.heap.size):lv'.ownBlock≠some nb:=λe=>(f.next e).elim h (λe=>oM)
theorem za8(w:World)(nb j:Nat)(u:Value):w.grownBy (w.setCell (aD nb j) u) (some nb):=⟨rfl,rfl,rfl,sM,λk _ a=>aA w (aD nb j) k u (by rintro rfl;exact a rfl)⟩
section
variable {B bs bt Bm Bc:Nat}{bad:Bool}{env:List Bnd}{ev sv mv cv:Value}{mk:List Bool}
def AnC(B bs bt Bm Bc:Nat)(bad:Bool)(env:List Bnd)(ev sv mv cv:Value)(mk:List Bool)(k:Nat)(l:List RC)(cp:List (Option Nat))(r:Nat×List RC×List (Option Nat)):Prop:=
 ∀(w:World) (lv:Value),ST w B bs bt l bad env lv ev sv->Bf w Bm 4 mv (mk.map Value.bool)->Bf w Bc 3 cv (cp.map cpV)->Calls prog 197 #[.pointer (some ⟨bs,0,none⟩),.int .i64 k,mv,cv] w λe w'=>e=.returned (.int .i64 r.1)/\∃lv',SF bs cv.ownBlock lv lv' w w'/\ST w' B bs bt r.2.1 bad env lv' ev sv/\Bf w' Bc 3 cv (r.2.2.map cpV)
theorem ztd(hsep:∀g,cv.ownBlock=some g->sv.ownBlock≠some g):∀(n k:Nat) (l:List RC) (cp:List (Option Nat)) (r:Nat×List RC×List (Option Nat)),Jr n mk k l cp=some r->r.2.1.length<=5000000->AnC B bs bt Bm Bc bad env ev sv mv cv mk k l cp r:=by
 intro n
 induction n with
 |zero=>intro k l cp r h;simp[Jr]at h
 |succ n ih=>
  intro k l cp r hf hlen w lv h hm hc;have hle:=(Jn hf).1;rw[Jr]at hf;have⟨x,hx,hf⟩:=zbE.1 hf;have hfew:=h.few;have H:=h;have HC:=hc;have HF:=hf;obtain⟨pm,cm,rfl⟩:=hm.slice;obtain⟨pc,cc,rfl⟩:=hc.slice;obtain⟨zm,hzm⟩:∃zm,(mk.map Value.bool).length=zm:=⟨_,rfl⟩;obtain⟨zc,hzc⟩:∃zc,(cp.map cpV).length=zc:=⟨_,rfl⟩;rw[hzm]at hm ih ⊢;rw[hzc]at HC hsep ih ⊢;obtain⟨R,hR⟩:∃R,r.2.2.map cpV=R:=⟨_,rfl⟩;obtain⟨Lr,hLr⟩:∃Lr,r.2.1=Lr:=⟨_,rfl⟩;rw[hR,hLr];clear h hc hf;go_in;go_wp21;go_call Ve H hx as e1 w1 ⟨rfl,hg⟩;have S1:=H.grown hg;have M1:=hm.grown hg;have C1:=HC.grown hg;have F1:=SF.Ae (bs:=bs) (x:=(Value.slice pc zc cc).ownBlock) (lv:=lv) hg;clear hg H hm HC;have hxlt:=(Kb hx).lt.2;by_cases hmk:Ta mk x=true
  ·have hf:=HF;rw[mA hmk]at hf;cases hf;have hq:mk[x]?=some true:=Nu.1 hmk;obtain⟨gm,rfl,-,m0,-,-,-⟩:=M1.at' (k:=x) (u:=.bool true) (by rw[sD,hq];rfl);have hxm:(x:Int)<(zm:Int):=(by have:=(zlE.1 hq).1;rw[<-hzm,uD];omega);clear hmk hq;go_wp21;go_ret;exact⟨rfl,lv,F1,by rw[<-hLr];exact S1,by rw[<-hR];exact C1⟩
  have hf:=HF;rw[jA hmk]at hf;have⟨o,ho,hf⟩:=zbE.1 hf;have hmw:(∃gm,pm=some (aD gm 0)/\(x:Int)<(zm:Int)/\w1.cell? (aD gm x)=some (.bool false))\/¬(x:Int)<(zm:Int):=by
   rcases yB x mk.length with hl|hl
   ·have hq:mk[x]?=some false:=by
     cases hb:mk[x]? with
     |none=>have:=List.getElem?_eq_none_iff.1 hb;omega
     |some b=>cases b with
      |false=>rfl
      |true=>exact absurd (Nu.2 hb) hmk
    obtain⟨gm,e1,-,m0,-,-,-⟩:=M1.at' (k:=x) (u:=.bool false) (by rw[sD,hq];rfl);exact .inl ⟨gm,e1,by rw[<-hzm,uD];omega,m0⟩
   ·exact .inr (by rw[<-hzm,uD];omega)
  obtain⟨gc,rfl,-,k0,kf,-,hgc⟩:=C1.at' (k:=x) (u:=cpV o) (by rw[sD,ho];rfl);have hxc:(x:Int)<(zc:Int):=by have:=(zlE.1 ho).1;rw[<-hzc,uD];omega
  have HF2:=hf;clear hf HF hmk;go_upto_region 2 with fail;go_cut [23]from 14 to 22 (λb wc=>b=.bool false/\wc=w1)
  case first=>
   rcases hmw with⟨gm,rfl,hxm,m0⟩|hxm
   all_goals
    go_wp21;go_meet;exact⟨rfl,rfl⟩
  obtain⟨rfl,rfl⟩:=hcut;clear hmw;cases o with
  |some c=>
   have hf:=HF2;cases hf;have k1:wc.cell? (aD gc x)=some (vI c):=k0;have hc0:(0:Int)<=(c:Int):=oM;clear k0;go_wp21;go_ret;exact⟨rfl,lv,F1,by rw[<-hLr];exact S1,by rw[<-hR];exact C1⟩
  |none=>
  have k1:wc.cell? (aD gc x)=some (vI (-1)):=k0;have hf:=HF2;dsimp only at hf;have⟨t,ht,hf⟩:=zbE.1 hf;have hl1:l.length+1<=r.2.1.length:=by
   have hf':=hf;split at hf'
   ·cases hf';simp
   ·split at hf'
    ·have⟨a,ha,hf'⟩:=zbE.1 hf';have⟨b,hb,hf'⟩:=zbE.1 hf';have h1:=(Jn ha).1;have h2:=(Jn hb).1;cases hf';simp at h1 ⊢;omega
    ·cases hf';simp
  have HF3:=hf;have⟨_,c1,_,_,_⟩:=S1.cells;have⟨g,capl,e,d0,d1,d2,d3,_⟩:=S1.type ht;subst e;have hxt:(x:Int)<(l.length:Int):=oM;obtain⟨so,hso⟩:∃so:Int,(t.sort:Int)=so:=⟨_,rfl⟩;rw[hso]at d0;have hgw:g<wc.heap.size:=(S1.types.lt g rfl).2;clear hf HF2 k0;go_upto_region 7 with fail;have g2:=zwA wc (.cells #[vU so,vI t.a,vI t.b,vI t.foI] 281) none;have n2:=Ac wc (.cells #[vU so,vI t.a,vI t.b,vI t.foI] 281);have z2:(wc.alloc (.cells #[vU so,vI t.a,vI t.b,vI t.foI] 281)).heap.size=wc.heap.size+1:=sM;generalize wc.alloc (.cells #[vU so,vI t.a,vI t.b,vI t.foI] 281)=w2 at g2 n2 z2 ⊢;obtain⟨nb,hnb⟩:∃nb,wc.heap.size=nb:=⟨_,rfl⟩;rw[hnb];rw[hnb]at n2 z2 hgc hgw;have hnw:w.heap.size<=nb:=by rw[<-hnb];exact F1.size
  have S2:=S1.grown g2;have M2:=M1.grown g2;have C2:=C1.grown g2;have F2:=F1.trans (SF.Ae g2);have hbs2:bs<nb:=by rw[<-hnb];exact(zgE.1 S1.store).1
  clear hnb g2 c1 d0 d1 d2 d3 S1 M1 C1 F1 k1 kf;go_wp21;go_call Qb S2 oM as e2 w3 ⟨rfl,lv3,hsf,hs3⟩;have C3:=C2.sf S2 dZ hsf (λg hg e=>by cases e);have M3:=M2.sf S2 dZ hsf (λg hg e=>by cases e);have hn3:lv3.ownBlock≠some nb:=hsf.ne (by simp[Value.ownBlock];omega) oM;have N3:=(hsf.block (k:=nb) oM oM (by simp[Value.ownBlock];omega) sM).trans n2;have hz3:=hsf.size;have⟨C4,G4⟩:=C3.set (k:=x) rfl (vI l.length);have e4:(cp.map cpV).set x (vI l.length)=(cp.set x (some l.length)).map cpV:=by rw[List.map_set];rfl
  rw[e4]at C4;have S4:=hs3.beside C3 ⟨dZ,dZ,dZ⟩ (λ_=>hsep) G4;have M4:=M3.kept λg hg=>by
   have⟨c,hc⟩:=M3.blk hg;exact G4.block g (zgE.1 hc).1 (C3.ne dZ hc)
  have N4:=(G4.block nb oM (by simp[Value.ownBlock];omega)).trans N3;have F4:=(F2.trans hsf.more).trans (SF.zwh G4);obtain⟨_,e3,-,k3,kf3,-,-⟩:=C3.at' (k:=x) (u:=cpV none) (by rw[sD,ho];rfl);cases e3;have z4:=G4.size;clear hsf hs3 C3 M3 G4 e4 S2 M2 C2 F2 n2 N3;go_upto_region 9 with fail;generalize w3.setCell (aD gc x) (vI l.length)=w4 at C4 S4 M4 N4 F4 z4 ⊢;have u0:w4.cell? (aD nb 0)=some (vU so):=zcR N4;have u1:w4.cell? (aD nb 1)=some (vI t.a):=zcR N4;clear k3 kf3;by_cases hv:so=118
  ·have hf:=HF3;rw[mA (by have:=hso;omega)]at hf;cases hf;subst hv;go_wp21;go_ret;exact⟨rfl,lv3,F4,by rw[<-hLr];exact S4,by rw[<-hR];exact C4⟩
  have hf:=HF3;rw[jA (by have:=hso;omega)]at hf;have HF4:=hf;clear hf HF3;have hnbw:nb<w4.heap.size:=oM;have hb0:(so==118)=false:=by simp[hv]
  by_cases hcm:so=62\/so=42
  case' pos=>
   have hf:=HF4;rw[mA (by have:=hso;omega)]at hf;have⟨a,ha,hf⟩:=zbE.1 hf;have⟨b,hb,hf⟩:=zbE.1 hf;have h1:=(Jn ha).1;have h2:=(Jn hb).1;cases hf;simp at h1 hlen;have HA:=ih _ _ _ _ ha oM;have HB:=ih _ _ _ _ hb hlen;have hli:l.length<b.2.1.length:=oM;clear ha hb h1 h2 HF4;have hbw:(so==62)=true\/((so==62)=false/\(so==42)=true):=(by rcases hcm with rfl|rfl<;>simp);clear hcm;rcases hbw with hb1|⟨hb1,hb2⟩
   all_goals
    go_upto_region 12 with fail;go_wp21;go_call HA _ _ S4 M4 C4 as e5 w5 ⟨rfl,lv5,hsf5,hs5,hc5⟩;have M5:=M4.sf S4 dZ hsf5 (λg hg e=>by
     have⟨c,hc⟩:=M4.blk hg;exact C4.ne dZ hc e)
    have N5:=(hsf5.block hnbw oM (λe=>hn3 e.symm) (by simp[Value.ownBlock];omega)).trans N4;have hn5:=hsf5.ne hn3 hnbw;have hz5:=hsf5.size;have F6:=(F4.trans hsf5).zlh (j:=1) hnw (vI a.1);have G6:=za8 w5 nb 1 (vI a.1);have S6:=hs5.zrr N5 hn5 G6;have C6:=hc5.kept λg hg=>by
     have⟨c,hc⟩:=hc5.blk hg;exact G6.block g (zgE.1 hc).1 (by rintro e;cases e;cases N5.symm.trans hc)
    have M6:=M5.kept λg hg=>by
     have⟨c,hc⟩:=M5.blk hg;exact G6.block g (zgE.1 hc).1 (by rintro e;cases e;cases N5.symm.trans hc)
    have N6:=Bu (j:=1) N5 (vI a.1);have x1:w5.cell? (aD nb 1)=some (vI t.a):=zcR N5;have y1:w5.frozen? (aD nb 1)=false:=eB _ _ _ _ _ N5;clear hsf5 hs5 hc5 M5 N5 G6 u0 u1 HA;go_upto_region 13 with fail;obtain⟨w6,hw6⟩:∃w6,w5.setCell (aD nb 1) (vI a.1)=w6:=⟨_,rfl⟩;rw[hw6]at F6 S6 C6 M6 N6;rw[hw6];have hz6:w6.heap.size=w5.heap.size:=(by rw[<-hw6];simp);have x2:w6.cell? (aD nb 2)=some (vI t.b):=zcR N6;clear hw6 x1 y1;go_wp21;go_call HB _ _ S6 M6 C6 as e7 w7 ⟨rfl,lv7,hsf7,hs7,hc7⟩;have N7:=(hsf7.block (k:=nb) oM oM (λe=>hn5 e.symm) (by simp[Value.ownBlock];omega)).trans N6;have hn7:=hsf7.ne hn5 oM;have F8:=(F6.trans hsf7).zlh (j:=2) hnw (vI b.1);have G8:=za8 w7 nb 2 (vI b.1);have S8:=hs7.zrr N7 hn7 G8;have C8:=hc7.kept λg hg=>by
     have⟨c,hc⟩:=hc7.blk hg;exact G8.block g (zgE.1 hc).1 (by rintro e;cases e;cases N7.symm.trans hc)
    have N8:=Bu (j:=2) N7 (vI b.1);have x1:w7.cell? (aD nb 2)=some (vI t.b):=zcR N7;have y1:w7.frozen? (aD nb 2)=false:=eB _ _ _ _ _ N7;clear hsf7 hs7 hc7 N7 G8 x2 HB;go_upto_region 14 with fail;generalize w7.setCell (aD nb 2) (vI b.1)=wz at F8 S8 C8 N8 ⊢;have ZZ:∃(Lz:List RC) (Az Bz:Nat) (lvz:Value) (cz:List (Option Nat)),(ST wz B bs bt Lz bad env lvz ev sv)/\(Bf wz Bc 3 (sL gc zc cc) (cz.map cpV))/\(SF bs (sL gc zc cc).ownBlock (sL g l.length capl) lvz w wz)/\wz.cell? (aD nb 0)=some (vU so)/\wz.cell? (aD nb 1)=some (vI Az)/\wz.cell? (aD nb 2)=some (vI Bz)/\lvz.ownBlock≠some nb/\l.length<Lz.length/\(Lz.set l.length ⟨t.sort,Az,Bz,none⟩=Lr)/\(cz.map cpV=R):=
     ⟨b.2.1,a.1,b.1,lv7,b.2.2,S8,C8,F8,zcR N8,zcR N8,zcR N8,hn7,hli,hLr,hR⟩
    clear x1 y1 N8 S8 C8 F8 hLr hR hn7 hn5 hli
  case' neg=>
   have hf:=HF4;rw[jA (by have:=hso;omega)]at hf;cases hf;have hc1:¬so=62:=λe=>hcm (.inl e);have hc2:¬so=42:=λe=>hcm (.inr e);have hb1:(so==62)=false:=(by simp[hc1]);have hb2:(so==42)=false:=(by simp[hc2]);clear hcm HF4;obtain⟨wz,rfl⟩:∃wz,wz=w4:=⟨_,rfl⟩;have ZZ:∃(Lz:List RC) (Az Bz:Nat) (lvz:Value) (cz:List (Option Nat)),(ST wz B bs bt Lz bad env lvz ev sv)/\(Bf wz Bc 3 (sL gc zc cc) (cz.map cpV))/\(SF bs (sL gc zc cc).ownBlock (sL g l.length capl) lvz w wz)/\wz.cell? (aD nb 0)=some (vU so)/\wz.cell? (aD nb 1)=some (vI Az)/\wz.cell? (aD nb 2)=some (vI Bz)/\lvz.ownBlock≠some nb/\l.length<Lz.length/\(Lz.set l.length ⟨t.sort,Az,Bz,none⟩=Lr)/\(cz.map cpV=R):=
    ⟨l++[⟨118,0,0,none⟩],t.a,t.b,lv3,cp.set x (some l.length),S4,C4,F4,u0,u1,zcR N4,hn3,sM,hLr,hR⟩
   have ZZ:=ZZ;clear u1 hLr hR;go_upto_region 14 with fail;have ZZ:=ZZ;clear u0
  all_goals
   have⟨Lz,Az,Bz,lvz,cz,SZ,CZ,FZ,q0,q1,q2,hnz,hli,HLZ,HRZ⟩:=ZZ;have SD:=SZ.grown (Ad (Aa wz));have hel:=fA hli;have⟨gz,capz,e,f0,f1,f2,f3,ff⟩:=SD.type hel;subst e;have⟨_,c1,_,_,_⟩:=SD.cells;have hgn:gz≠nb:=λe=>hnz (by rw[<-e];rfl);have hgb:gz≠bs:=λe=>by
    rcases SD.types.2 with⟨e1,_⟩|⟨g',cap',cur,e1,_,h2,_⟩
    ·cases e1
    ·cases e1;rw[e,SD.store]at h2;cases h2
   have ff0:=ff (l.length*4);have ff1:=ff (l.length*4+1);have ff2:=ff (l.length*4+2);have ff3:=ff (l.length*4+3);have⟨S9,G9⟩:=SD.zr1 hel rfl (y:=⟨t.sort,Az,Bz,none⟩) (v0:=vU so) (v1:=vI Az) (v2:=vI Bz) (v3:=vI (-1)) (by rw[<-hso];rfl);have C9:=CZ.sf SZ dZ (SF.zta (bs:=bs) (x:=none) (lv:=sL gz Lz.length capz) (A6 (Ay (Ad (Aa wz))) G9)) (λg hg e=>by cases e);have F9:=FZ.trans (SF.zta (A6 (Ay (Ad (Aa wz))) G9));have S9:=S9;have C9:=C9;have F9:=F9;have hli2:(l.length:Int)<(Lz.length:Int):=oM;have hmx:prog.follows .mixedOrders=true:=kR;clear ff hnz hel SD G9 SZ CZ FZ;refine Ga (λW=>W.cell? (aD bs 1)=some (sL gz Lz.length capz)/\W.cell? (aD nb 0)=some (vU so)/\W.cell? (aD nb 1)=some (vI Az)/\W.cell? (aD nb 2)=some (vI Bz)) hmx ⟨c1,q0,q1,q2⟩ ?_;intro hSd;generalize wz.drew=wd at hSd S9 C9 F9 f0 f1 f2 f3 ff0 ff1 ff2 ff3 ⊢;have⟨s0,s1,s2,s3⟩:=hSd;have hSd:=(⟨s0,s1,s2,s3⟩:wd.cell? (aD bs 1)=some (sL gz Lz.length capz)/\wd.cell? (aD nb 0)=some (vU so)/\wd.cell? (aD nb 1)=some (vI Az)/\wd.cell? (aD nb 2)=some (vI Bz));clear q0 q1 q2 c1 s0 s1 s2 s3;refine tkH 0 (v:=pT bs) rfl (λW ⟨e0,e1,e2,e3⟩=>by go_simp) hSd ?_;simp[Act.put];refine tkH 1 (v:=pT bs) rfl (λW ⟨e0,e1,e2,e3⟩=>by go_simp) hSd ?_;simp[Act.put];refine tkH 2 (v:=.pointer (some (aD bs 1))) rfl (λW ⟨e0,e1,e2,e3⟩=>by go_simp) hSd ?_;simp[Act.put];refine tkH 3 (v:=sL gz Lz.length capz) rfl (λW ⟨e0,e1,e2,e3⟩=>by go_simp) hSd ?_;simp[Act.put];refine tkH 4 (v:=vI l.length) rfl (λW ⟨e0,e1,e2,e3⟩=>by go_simp) hSd ?_;simp[Act.put];refine tkH 5 (v:=pT nb) rfl (λW ⟨e0,e1,e2,e3⟩=>by go_simp) hSd ?_;simp[Act.put];refine tkH 6 (v:=vU so) rfl (λW ⟨e0,e1,e2,e3⟩=>by go_simp) hSd ?_;simp[Act.put];refine tkH 7 (v:=.pointer (some (aD nb 1))) rfl (λW ⟨e0,e1,e2,e3⟩=>by go_simp) hSd ?_;simp[Act.put];refine tkH 8 (v:=vI Az) rfl (λW ⟨e0,e1,e2,e3⟩=>by go_simp) hSd ?_;simp[Act.put];refine tkH 9 (v:=.pointer (some (aD nb 2))) rfl (λW ⟨e0,e1,e2,e3⟩=>by go_simp) hSd ?_;simp[Act.put];refine tkH 10 (v:=vI Bz) rfl (λW ⟨e0,e1,e2,e3⟩=>by go_simp) hSd ?_;simp[Act.put];refine tkH 11 (v:=.agg #[vU so,vI Az,vI Bz,vI (-1)]) rfl (λW ⟨e0,e1,e2,e3⟩=>by go_simp) hSd ?_;simp[Act.put];refine tkH 12 (v:=.pointer (some ⟨gz,l.length*4,none⟩)) rfl (λW ⟨e0,e1,e2,e3⟩=>by go_simp) hSd ?_;simp[Act.put];refine gE (rs:=[13]) kR sM ?_;refine yA rfl (λK hK=>?_) zA;go_simp;have Aq:∀ {a:Addr} {v:Value},wd.cell? a=some v->a.block≠gz->((((wd.setCell ⟨gz,l.length*4,none⟩ (vU so)).setCell ⟨gz,l.length*4+1,none⟩ (vI Az)).setCell ⟨gz,l.length*4+2,none⟩ (vI Bz)).setCell ⟨gz,l.length*4+3,none⟩ (vI (-1))).cell? a=some v:=λ{a v} h hn=>(vD ((aA _ ⟨gz,l.length*4+3,none⟩ a.block _ hn).trans ((aA _ ⟨gz,l.length*4+2,none⟩ a.block _ hn).trans ((aA _ ⟨gz,l.length*4+1,none⟩ a.block _ hn).trans (aA _ ⟨gz,l.length*4,none⟩ a.block _ hn))))).trans h;refine hK.out _ _ ⟨Aq hSd.1 (λe=>hgb e.symm),Aq hSd.2.1 (λe=>hgn e.symm),Aq hSd.2.2.1 (λe=>hgn e.symm),Aq hSd.2.2.2 (λe=>hgn e.symm)⟩ (λ_=>?_);clear hK K Aq hSd;refine iE kR ⟨rfl,?_⟩ _;go_wp21;go_ret;exact⟨rfl,_,F9,by rw[<-HLZ];exact S9,by rw[<-HRZ];exact C9⟩
end
end
end
abbrev jE:=@World.news_of_block
section
open Tw Tw.Rf Go.Proofs.Tryz
open Go.RowKit
section
def zty(w:World)(B:Nat)(v:Value)(ks:List Nat):Prop:=w.ownsRow B 3 1 v ks.length (ks.reverse.map λf:Nat=>Value.int .i64 f)
section
variable {w:World}{B bs bt:Nat}{l:List Tw.Rf.RC}{bad:Bool}{env:List Bnd}{lv ev sv:Value}
theorem zte(h:ST w B bs bt l bad env lv ev sv){n k:Nat}{mv:Value}{Bm:Nat}{mk mk':List Bool}(hm:Bf w Bm 4 mv (mk.map Value.bool))(hml:mk.length=l.length)(hf:freeS n l [k] mk=some mk'):
  Calls prog 196 #[pT bs,vI k,mv] w λe w'=>e=.returned (.tuple #[])/\w.grownBy w' mv.ownBlock/\Bf w' Bm 4 mv (mk'.map Value.bool):=by
 have hfew:=h.few;have H:=bV h;have HF:=bV hf;have HM:=bV hm;obtain⟨pm,cm,rfl⟩:=hm.slice;rw[uD]at *;have hun:Oc mk<=5000000:=kB List.countP_le_length oM;have cT:prog.cellsOf 281=4:=kR;have hii:(prog.info? 3).map (λi=>(i.zero,i.size,i.bytes))=some (some (vI 0),1,8):=kR;obtain⟨i0,hi,hz0,hz1,hz2⟩:=info_parts hii;have HML:=bV hml;clear h hf hm hml;go_in;go_wp2_with fail;have g0:=zwA w (.cells #[vI k] 3) none;have n0:=Ac w (.cells #[vI k] 3);obtain⟨w0,hw0⟩:∃w0,w.alloc (.cells #[vI k] 3)=w0:=⟨_,rfl⟩;rw[hw0]at g0 n0;rw[hw0];have D0:Hid (zty w0 w.heap.size (sL w.heap.size 1 1) [k]):=bV ⟨sM,.inr ⟨w.heap.size,1,_,rfl,znL _,n0,znL _,by unfold maxLen;omega,rfl,rfl⟩⟩;have H0:=bV (H.o.grown g0);have M0:=bV (HM.o.grown g0);have K0:=bV (Ay (o:=(Value.slice pm mk.length cm).ownBlock) g0);clear g0 n0 hw0;go_loopg[6] n (λj tv wr=>∃(ks:List Nat) (mc:List Bool) (gt cap:Nat),tv=sL gt ks.length cap/\Hid (zty wr w.heap.size (sL gt ks.length cap) ks)/\Hid (ST wr B bs bt l bad env lv ev sv)/\Hid (Bf wr Bm 4 (.slice pm mk.length cm) (mc.map Value.bool))/\Hid (w.grownBy wr (Value.slice pm mk.length cm).ownBlock)/\2*Oc mc+ks.length<=10000001/\Hid (freeS j l ks mc=some mk'))
 case atStart=>exact⟨[k],mk,w.heap.size,1,rfl,D0,H0,M0,K0,by simp;omega,HF⟩
 case round=>
  obtain⟨ks,mc,gt,cap,rfl,D,S,M,K,hro,HS⟩:=hrel;cases gk with
  |zero=>exact absurd HS.o (by simp[freeS])
  |succ m=>
   cases ks with
   |nil=>
    have hs:=HS.o;simp only[freeS,zsI]at hs;subst hs;have hz:(([]:List Nat).length:Int)=0:=rfl;go_wp2_with fail;go_end0;exact⟨rfl,K.o,M.o⟩
   |cons q rest=>
    have hs:=HS.o;rw[freeS]at hs;obtain⟨x,hx,hs⟩:=zbE.1 hs;obtain⟨b,hb,hs⟩:=zbE.1 hs;have HX:=bV hx;have HB:=bV (show(mc.map Value.bool)[x]?=some (.bool b) by rw[sD,hb];rfl);have HUB:=bV hb;have HS2:=bV hs;have t0:wr.cell? ⟨gt,rest.length,none⟩=some (vI q):=by
     have:=D.o.cellAt rest.length sM;rw[List.reverse_cons,vB,fB sM]at this;simpa using this
    have D1:Hid (zty wr w.heap.size (sL gt rest.length cap) rest):=by
     have:=zg9 (k:=rest.length) D.o sM;rw[List.reverse_cons,vB,List.take_left' sM]at this;exact bV this
    have hcap:rest.length+1<=cap:=by
     rcases D.o.2 with⟨e1,_⟩|⟨g',cap',cur,e1,_,_,a3,_⟩
     ·cases e1
     ·cases e1;simpa using a3
    simp only[zB]at hro;rw[zB];clear hx hb hs HS D;go_wp2_with fail;refine(Ve S.o HX.o).mono ?_;rintro e1 w2 ⟨rfl,hg⟩;have S2:=bV (S.o.grown hg);have M2:=bV (M.o.grown hg);have K2:=bV (A6 K.o (Ay hg));have D2:=bV (Bs D1.o hg);clear hg S M K D1 t0;obtain⟨gm,rfl,hmn,m0,mf,_,hgm⟩:=M2.o.at' HB.o;have hxl:=(zlE.1 HUB.o).1;rw[uD]at hmn;have hxm:(x:Int)<(mk.length:Int):=oM;have HMN:=bV hmn;clear hmn;cases b with
    |true=>
     have hs:=HS2.o;rw[mA rfl]at hs;have HS3:=bV hs;clear hs HS2;go_wp2_with fail;go_roundg m
     case measure=>omega
     case rel=>exact⟨rest,mc,gt,cap,rfl,D2,S2,M2,K2,oM,HS3⟩
    |false=>
     have hs:=HS2.o;rw[jA sM]at hs;obtain⟨c,hc,hs⟩:=zbE.1 hs;have HC:=bV hc;have HS3:=bV hs;clear hc hs HS2;obtain⟨M3,G3⟩:=M2.o.set (k:=x) rfl (.bool true);rw[<-List.map_set]at M3;have S3:=S2.o.beside M2.o ⟨dZ,dZ,dZ⟩ (λe=>absurd e dZ) G3;have D3:=Ai D2.o λg c hc=>(G3.block g (zgE.1 hc).1 (M2.o.ne dZ hc)).trans hc;have K3:=bV (A6 K2.o G3);clear G3;go_upto_region 6 with fail;obtain⟨w3,hw3⟩:∃w3,w2.setCell (aD gm x) (.bool true)=w3:=⟨_,rfl⟩;rw[hw3]at M3 S3 D3 K3;rw[hw3];have M3:=bV M3;have S3:=bV S3;have D3:=bV D3;have hun:=V8 HUB.o;clear hw3 m0 mf hgm M2 S2 D2 K2 HB;obtain⟨_,c1,_,_,_⟩:=S3.o.cells;obtain⟨g,capl,e,d0,d1,d2,d3,_⟩:=S3.o.type HC.o;subst e;have hlow:bs<w.heap.size/\g<w.heap.size:=⟨(zgE.1 H.o.store).1,(H.o.types.lt g rfl).2⟩;have hxl2:(x:Int)<(l.length:Int):=(by have:=(zlE.1 HC.o).1;omega);by_cases hcm:c.sort=62\/c.sort=42
     ·have hs:=HS3.o;rw[mA hcm]at hs;have HS4:=bV hs;have HSZ:=bV (S3.o.few);have hz3:w.heap.size<=w3.heap.size:=K3.o.size;obtain⟨so,hso⟩:∃so:Int,(c.sort:Int)=so:=⟨_,rfl⟩;rw[hso]at d0;have hsw:so=62\/so=42:=oM;have hmx:prog.follows .mixedOrders=true:=kR;clear hs HS3 hso hcm d3;rcases hsw with rfl|rfl
      all_goals
       go_upto_region 7 with fail;clear d0;refine Ga (λW=>W.cell? (aD bs 1)=some (sL g l.length capl)/\W.cell? (aD g (x*4+1))=some (vI c.a)/\W.cell? (aD g (x*4+2))=some (vI c.b)) hmx ⟨c1,d1,d2⟩ ?_;intro hSd;have GD:w3.grownBy w3.drew none:=Ad (Aa w3);obtain⟨wd,hwd⟩:∃wd,w3.drew=wd:=⟨_,rfl⟩;rw[hwd]at hSd GD;rw[hwd];obtain⟨c1',d1',d2'⟩:=hSd;have hSd:=(⟨c1',d1',d2'⟩:wd.cell? (aD bs 1)=some (sL g l.length capl)/\wd.cell? (aD g (x*4+1))=some (vI c.a)/\wd.cell? (aD g (x*4+2))=some (vI c.b));clear hwd c1 d1 d2;refine tkH 0 (v:=sL gt rest.length cap) rfl (λW ⟨e1,e2,e3⟩=>by go_simp) hSd ?_;simp only[Act.put];refine tkH 1 (v:=pT bs) rfl (λW ⟨e1,e2,e3⟩=>by go_simp) hSd ?_;simp only[Act.put];refine tkH 2 (v:=pT bs) rfl (λW ⟨e1,e2,e3⟩=>by go_simp) hSd ?_;simp only[Act.put];refine tkH 3 (v:=.pointer (some (aD bs 1))) rfl (λW ⟨e1,e2,e3⟩=>by go_simp) hSd ?_;simp only[Act.put];refine tkH 4 (v:=sL g l.length capl) rfl (λW ⟨e1,e2,e3⟩=>by go_simp) hSd ?_;simp only[Act.put];refine tkH 5 (v:=vI x) rfl (λW ⟨e1,e2,e3⟩=>by go_simp) hSd ?_;simp only[Act.put];refine tkH 6 (v:=.pointer (some (aD g (x*4)))) rfl (λW ⟨e1,e2,e3⟩=>by go_simp) hSd ?_;simp only[Act.put];refine tkH 7 (v:=.pointer (some (aD g (x*4+1)))) rfl (λW ⟨e1,e2,e3⟩=>by go_simp) hSd ?_;simp only[Act.put];refine tkH 8 (v:=vI c.a) rfl (λW ⟨e1,e2,e3⟩=>by go_simp) hSd ?_;simp only[Act.put];refine tkH 9 (v:=pT bs) rfl (λW ⟨e1,e2,e3⟩=>by go_simp) hSd ?_;simp only[Act.put];refine tkH 10 (v:=pT bs) rfl (λW ⟨e1,e2,e3⟩=>by go_simp) hSd ?_;simp only[Act.put];refine tkH 11 (v:=.pointer (some (aD bs 1))) rfl (λW ⟨e1,e2,e3⟩=>by go_simp) hSd ?_;simp only[Act.put];refine tkH 12 (v:=sL g l.length capl) rfl (λW ⟨e1,e2,e3⟩=>by go_simp) hSd ?_;simp only[Act.put];refine tkH 13 (v:=vI x) rfl (λW ⟨e1,e2,e3⟩=>by go_simp) hSd ?_;simp only[Act.put];refine tkH 14 (v:=.pointer (some (aD g (x*4)))) rfl (λW ⟨e1,e2,e3⟩=>by go_simp) hSd ?_;simp only[Act.put];refine tkH 15 (v:=.pointer (some (aD g (x*4+2)))) rfl (λW ⟨e1,e2,e3⟩=>by go_simp) hSd ?_;simp only[Act.put];refine tkH 16 (v:=vI c.b) rfl (λW ⟨e1,e2,e3⟩=>by go_simp) hSd ?_;simp only[Act.put];refine gE (rs:=[17]) kR sM ?_;refine yA rfl (λK hK=>?_) zA;go_simp;have GB:wd.grownBy (wd.alloc (.cells #[vI c.a,vI c.b] 3)) none:=Aj (Aa wd) _;have GA:=Ab GD GB;have NA:(wd.alloc (.cells #[vI c.a,vI c.b] 3)).heap[wd.heap.size]?=some (.cells #[vI c.a,vI c.b] 3):=Ac wd _;refine hK.out _ _ ⟨cell_kept c1' GB sM,cell_kept d1' GB sM,cell_kept d2' GB sM⟩ (λhSd=>?_);clear hK K hSd;have DA:=Bs D3.o GA;have SA:=bV (S3.o.grown GA);have MA:=bV (M3.o.grown GA);have KA:=bV (A6 K3.o (Ay GA));obtain⟨hza,hzb⟩:=hlow;have hzk:=K3.o.size;obtain⟨wa,hwa⟩:∃wa,wd.alloc (.cells #[vI c.a,vI c.b] 3)=wa:=⟨_,rfl⟩;rw[hwa]at GA GB NA DA SA MA KA;rw[hwa];have DA:=bV DA;have hwz:=KA.o.size;clear hwa;refine gE (rs:=[18]) kR sM ?_;refine yA rfl (λK hK=>?_) zA;rw[mA (by rfl)];refine wp_append_lies _ _ _ 33 rfl w.heap.size 3 i0 (vI 0) 1 8 underlying33 hi hz0 hz1 hz2 rfl dZ (sL gt rest.length cap) rest.length (rest.reverse.map λf:Nat=>vI f) rfl DA.o (aD wd.heap.size 0) 2 2 [vI c.a,vI c.b] rfl rfl (jE NA) (by intro u hu;simp at hu;rcases hu with rfl|rfl<;>rfl) dZ (by unfold maxLen;omega) oM hwz _ rfl ?_;intro g5 cap5 w5 hown5 hgrow5 _ _;have C5:w5.cell? (aD bs 1)=some (sL g l.length capl)/\w5.cell? (aD g (x*4+1))=some (vI c.a)/\w5.cell? (aD g (x*4+2))=some (vI c.b):=by
        have hgt:=(DA.o.lt gt rfl).1;have k:∀ {a:Addr} {v:Value},wd.cell? a=some v->a.block<w.heap.size->w5.cell? a=some v:=λ{a v} h hb=>(vD ((Ec GB hgrow5).block a.block (aB hb (kB hzk GD.size)) (by simp[Value.ownBlock];omega))).trans h;exact⟨k c1' hza,k d1' hzb,k d2' hzb⟩
       have O5:=bV hown5;have G5:=bV hgrow5;clear hown5 hgrow5;refine hK.out _ _ C5 (λ_=>?_);clear hK K;refine gE (rs:=[19]) kR sM ?_;refine yA rfl (λK hK=>?_) zA;go_simp;refine hK.out _ _ C5 (λ_=>?_);clear hK K C5 c1' d1' d2';refine iE kR ⟨rfl,?_⟩ _;go_wp2_with fail;go_roundg m
       case measure=>omega
       case rel=>
        have hsn:∀q,(sL gt rest.length cap).ownBlock=some q->sv.ownBlock≠some q:=λq hq e=>by
         obtain⟨_,hs⟩:=H.o.seen;have h1:=(hs.lt q e).2;have h2:=(DA.o.lt q hq).1;omega
        have hrw:Bf wa w.heap.size 3 (sL gt rest.length cap) (rest.reverse.map λf:Nat=>vI f):=by
         unfold Bf;rw[uD,List.length_reverse];exact DA.o
        refine⟨c.b::c.a::rest,_,g5,cap5,?_,?_,bV (SA.o.beside hrw ⟨dZ,dZ,dZ⟩ (λ_=>hsn) G5.o),bV (MA.o.kept λq hq=>?_),?_,?_,HS4⟩
        ·simp
        ·have:=O5.o;refine bV ?_;unfold zty;rw[zB,zB,List.reverse_cons,List.reverse_cons,wA,vB];exact this
        ·obtain⟨cc,hcc⟩:=MA.o.blk hq;exact G5.o.block q (zgE.1 hcc).1 (hrw.ne dZ hcc)
        ·refine bV ⟨G5.o.os.trans KA.o.os,G5.o.tape.trans KA.o.tape,G5.o.output.trans KA.o.output,kB KA.o.size G5.o.size,λq hq hn=>?_⟩;exact(G5.o.block q (aB hq KA.o.size) (λe=>by have:=(DA.o.lt q e.symm).1;omega)).trans (KA.o.block q hq hn)
        ·simp only[zB];omega
     ·have hs:=HS3.o;rw[jA hcm]at hs;have HS4:=bV hs;have hc1:¬(c.sort:Int)=62:=oM;have hc2:¬(c.sort:Int)=42:=oM;have hb1:((c.sort:Int)==62)=false:=(by simp[hc1]);have hb2:((c.sort:Int)==42)=false:=(by simp[hc2]);clear hs HS3 hcm;go_wp2_with fail;go_roundg m
      case measure=>omega
      case rel=>exact⟨rest,_,gt,cap,rfl,D3,S3,M3,K3,oM,HS4⟩
end
end
section
def Wx(i:Int):Value:=.int .i64 i
section
variable {B bs bt Bk:Nat}{l:List Tw.Rf.RC}{bad:Bool}{env:List Bnd}{lv ev sv kv:Value}
def RdC(B bs bt Bk:Nat)(l:List RC)(bad:Bool)(env:List Bnd)(lv ev sv kv:Value)(k:Nat)(st:List Int)(r:Bool×List Int):Prop:=
 ∀(w:World),ST w B bs bt l bad env lv ev sv->Bf w Bk 3 kv (st.map Wx)->Calls prog 72 #[.pointer (some ⟨bs,0,none⟩),.int .i64 k,kv] w λe a=>e=.returned (.bool r.1)/\w.grownBy a kv.ownBlock/\Bf a Bk 3 kv (r.2.map Wx)
theorem zqp(hsep:∀g,kv.ownBlock=some g->sv.ownBlock≠some g):∀(n k:Nat) (st:List Int) (r:Bool×List Int),Hu n l st k=some r->RdC B bs bt Bk l bad env lv ev sv kv k st r:=by
 intro n
 induction n with
 |zero=>intro k st r h;simp[Hu]at h
 |succ n ih=>
  intro k st r hf w h hm;rw[Hu]at hf;have⟨x,hx,hf⟩:=zbE.1 hf;have⟨m,hk,hf⟩:=zbE.1 hf;have hfew:=h.few;have HF:=hf;obtain⟨pk,ck,rfl⟩:=hm.slice;have HK:=show(st.map Wx)[x]?=some (vI m) by rw[sD,hk];rfl
  have hxl:=(zlE.1 hk).1;have cT:prog.cellsOf 281=4:=kR;obtain⟨zl,hzl⟩:∃zl,(st.map Wx).length=zl:=⟨_,rfl⟩;rw[hzl]at hm ih hsep ⊢;have hxz:(x:Int)<(zl:Int):=by rw[<-hzl,uD];omega
  have hxs:=hxl;obtain⟨R,hR⟩:∃R,r.2.map Wx=R:=⟨_,rfl⟩;rw[hR];go_in;go_wp2_with fail;go_call Ve h hx as e1 w1 ⟨rfl,hg⟩;have S1:=h.grown hg;have M1:=hm.grown hg;have G1:=Ay (o:=(Value.slice pk zl ck).ownBlock) hg;obtain⟨gm,rfl,-,m0,mf,-,hgm⟩:=M1.at' HK;by_cases h2:m=2
  ·have hf:=HF;rw[mA h2]at hf;cases hf;subst h2;go_wp2_with fail;go_ret;exact⟨rfl,G1,by rw[<-hR];exact M1⟩
  by_cases h1:m=1
  ·have hf:=HF;rw[jA h2,mA h1]at hf;cases hf;subst h1;go_wp2_with fail;go_ret;exact⟨rfl,G1,by rw[<-hR];exact M1⟩
  have hf:=HF;rw[jA h2,jA h1]at hf;have⟨t,ht,hf⟩:=zbE.1 hf;have HF2:=hf;have⟨M2,G2⟩:=M1.set (k:=x) rfl (vI 1);have e2:(st.map Wx).set x (vI 1)=(st.set x 1).map Wx:=by rw[List.map_set];rfl
  rw[e2]at M2;have S2:=S1.beside M1 ⟨dZ,dZ,dZ⟩ (λ_=>hsep) G2;have hz12:=G2.size;have G2:=A6 G1 G2;go_upto_region 7 with fail;obtain⟨w2,hw2⟩:∃w2,w1.setCell (aD gm x) (vI 1)=w2:=⟨_,rfl⟩;rw[hw2]at M2 S2 G2 hz12;rw[hw2];have hxt:(x:Int)<(l.length:Int):=by have:=(zlE.1 ht).1;omega
  have HZ2:=hz12;have⟨_,c1,_,_,_⟩:=S2.cells;have⟨g,capl,e,d0,d1,d2,d3,_⟩:=S2.type ht;subst e;obtain⟨so,hso⟩:∃so:Int,(t.sort:Int)=so:=⟨_,rfl⟩;rw[hso]at d0;go_upto_region 8 with fail;have g3:=zwA w2 (.cells #[vU so,vI t.a,vI t.b,vI t.foI] 281) none;have n3:=Ac w2 (.cells #[vU so,vI t.a,vI t.b,vI t.foI] 281);obtain⟨w3,hw3⟩:∃w3,w2.alloc (.cells #[vU so,vI t.a,vI t.b,vI t.foI] 281)=w3:=⟨_,rfl⟩;obtain⟨nb,hnb⟩:∃nb,w2.heap.size=nb:=⟨_,rfl⟩;rw[hw3]at g3 n3;rw[hw3];have hgl:=aB hgm HZ2;rw[hnb]at n3 hgl;rw[hnb];have S3:=S2.grown g3;have M3:=M2.grown g3;have G3:=A6 G2 (Ay g3);have u0:w3.cell? (aD nb 0)=some (vU so):=zcR n3;have u1:w3.cell? (aD nb 1)=some (vI t.a):=zcR n3;by_cases hcm:so=62\/so=42
  ·have hf:=HF2;rw[mA (by have:=hso;omega)]at hf;have⟨a,ha,hf⟩:=zbE.1 hf;have HA:=ih _ _ _ ha;have HL:=Qx ha;have HF3:=hf;rcases hcm with rfl|rfl
   all_goals
    go_wp2_with fail;go_call HA _ S3 M3 as e4 w4 ⟨rfl,hg4,hm4⟩;have S4:=S3.beside M3 ⟨dZ,dZ,dZ⟩ (λ_=>hsep) hg4;have G4:=A6 G3 hg4;have N4:=(hg4.block nb (zgE.1 n3).1 (by simp[Value.ownBlock];omega)).trans n3;have u2:w4.cell? (aD nb 2)=some (vI t.b):=zcR N4;have⟨a1,a2⟩:=a;cases a1 with
    |true=>
     have hf:=HF3;rw[mA rfl]at hf;cases hf;go_wp2_with fail;go_ret;exact⟨rfl,G4,by rw[<-hR];exact hm4⟩
    |false=>
     have hf:=HF3;rw[jA sM]at hf;have⟨b,hb,hf⟩:=zbE.1 hf;have HB:=ih _ _ _ hb;have HL2:=Qx hb;have HF4:=hf;go_wp2_with fail;go_call HB _ S4 hm4 as e5 w5 ⟨rfl,hg5,hm5⟩;have G5:=A6 G4 hg5;have⟨b1,b2⟩:=b;cases b1 with
     |true=>
      have hf:=HF4;rw[mA rfl]at hf;cases hf;go_wp2_with fail;go_ret;exact⟨rfl,G5,by rw[<-hR];exact hm5⟩
     |false=>
      have hf:=HF4;rw[jA sM]at hf;cases hf;have hxb:x<b2.length:=by
       have h1:=HL;have h2:=HL2;simp[List.length_set]at h1 h2;omega
      obtain⟨v,hv⟩:∃v,(b2.map Wx)[x]?=some v:=⟨_,fA (by simpa using hxb)⟩;obtain⟨_,e5,-,y0,yf,-,-⟩:=hm5.at' hv;cases e5;have⟨M6,G6⟩:=hm5.set (k:=x) rfl (vI 2);have e2:(b2.map Wx).set x (vI 2)=(b2.set x 2).map Wx:=(by rw[List.map_set];rfl);rw[e2]at M6;have G6:=A6 G5 G6;go_wp2_with fail;go_ret;exact⟨rfl,G6,by rw[<-hR];exact M6⟩
  ·have hf:=HF2;rw[jA (by have:=hso;omega)]at hf;cases hf;have hc1:¬so=62:=λe=>hcm (.inl e);have hc2:¬so=42:=λe=>hcm (.inr e);have hb1:(so==62)=false:=(by simp[hc1]);have hb2:(so==42)=false:=(by simp[hc2]);obtain⟨_,e5,-,y0,yf,-,-⟩:=M3.at' (k:=x) (u:=vI 1) (by rw[sD,List.getElem?_set_self hxs];rfl);cases e5;have⟨M6,G6⟩:=M3.set (k:=x) rfl (vI 2);have e2:((st.set x 1).map Wx).set x (vI 2)=((st.set x 1).set x 2).map Wx:=(by rw[List.map_set (l:=st.set x 1)];rfl);rw[e2]at M6;have G6:=A6 G3 G6;go_wp2_with fail;go_ret;exact⟨rfl,G6,by rw[<-hR];exact M6⟩
end
end
end
abbrev jD:=@Nat.eq_or_lt_of_le
section
open Tw Tw.Rf Go.Proofs.Tryz
open Go.RowKit
section
variable{z:Value}
theorem zqq(a:z.cells=#[z])(N:Nat):madeCells z.cells N=(List.replicate N z).toArray:=by
 rw[a];apply Array.ext
 ·simp[madeCells]
 ·intro i b c;simp[madeCells,Nat.mod_one]
theorem za9(t e:TypeId)(z:Value)(n a:Nat)(f:prog.underlying t=some (.slice e))(hi:(prog.info? e).map (λi=>(i.zero,i.size,i.bytes))=some (some z,1,a))(c:a<=8)(g:z.cells=#[z])(d:n<=5000000):
  ∃b,b=(List.replicate n z).toArray/\∀W:World,(Instr.makeSlice t (vI n) (vI n)).run prog W=.ok (sL W.heap.size n n) (W.alloc (.cells b e)):=by
 have⟨o,hi,j,k,m⟩:=info_parts hi;refine⟨_,rfl,λW=>?_⟩;have p:a*n<=8*5000000:=Nat.mul_le_mul c d;have h:=run_make (P:=prog) W t e o z f hi j .i64 .i64 n n oM oM (by rw[m];omega) oM;rw[k]at h;simp[Int.toNat_natCast,Nat.mul_one]at h;rw[zqq g]at h;exact h
theorem Bf.made{W:World}{n:Nat}{e:TypeId}{a:Array Value}(b:n<=5000000)(h:a=(List.replicate n z).toArray):Bf (W.alloc (.cells a e)) W.heap.size e (sL W.heap.size n n) (List.replicate n z):=by
 subst h;unfold Bf;rw[wD];exact⟨sM,.inr ⟨W.heap.size,n,_,rfl,znL _,Ac W _,znL _,by unfold maxLen;omega,sM,sM⟩⟩
theorem zqr{l:List Bnd}:∀ {j:Nat} {x:Bnd},l[j]?=some x->∀m,m<3->(l.flatMap zbl)[j*3+m]?=(zbl x)[m]? :=by
 induction l with
 |nil=>intro j x h;simp at h
 |cons y l ih=>
  intro j x h m a;rw[List.flatMap_cons];cases j with
  |zero=>
   cases h;rw[Nat.zero_mul,Nat.zero_add,iA (by simpa[zbl]using a)]
  |succ j=>
   rw[fB (by simp[zbl];omega)];rw[show(j+1)*3+m-(zbl y).length=j*3+m by simp[zbl];omega];exact ih (by simpa using h) m a
section
variable {w w':World}{B bs bt:Nat}{l:List Tw.Rf.RC}{bad:Bool}{env:List Bnd}{lv lv' ev sv:Value}
theorem ST.bnd(h:ST w B bs bt l bad env lv ev sv){k:Nat}{b:Bnd}(a:env[k]?=some b):∃g cap,ev=sL g env.length cap/\w.cell? (aD g (k*3))=some (vI b.1)/\w.cell? (aD g (k*3+1))=some (vI b.2.1)/\w.cell? (aD g (k*3+2))=some (.bool b.2.2):=by
 have p:=(zlE.1 a).1;have f:=zqr a;have d:=h.Ly;rcases h.Ly.2 with⟨_,n⟩|⟨g,cap,j,e,_,o,_⟩
 ·omega
 ·rw[e]at d;have c:∀m,m<3->w.cell? ⟨g,k*3+m,none⟩=(zbl b)[m]? :=λm i=>(d.cellAt _ oM).trans (f m i);exact⟨g,cap,e,c 0 oM,c 1 oM,c 2 oM⟩
theorem zu9{pre post:List Bnd}{j r:Nat}{an:Bool}{q:Nat×List RC}(h:ST w B bs bt l bad (pre++(j,r,an)::post) lv ev sv)(hfirst:∀b∈pre,b.1≠j)(hfe:(pre++(j,r,an)::post).length<=100000)
  (hways:(an=false/\q=(r,l))\/(an=true/\(∃n,Rf.Bg n (Uo pre) r l=some q)/\q.2.length<=5000000)) :
  Calls prog 128 #[pT bs,vI j] w λe w'=>e=.returned (vI q.1)/\TK B StS w w'/\∃lv',ST w' B bs bt q.2 bad (pre++(j,r,an)::post) lv' ev sv:=by
 have hfew:=h.few;have H:=bV h;have HW:=bV hways;have HF:=bV hfirst;have hmid:(pre++(j,r,an)::post)[pre.length]?=some (j,r,an):=sM;obtain⟨env,henv⟩:∃env,pre++(j,r,an)::post=env:=⟨_,rfl⟩;have HE:=bV henv;rw[henv]at H hfe hmid;rw[henv];have hpl:pre.length<env.length:=by rw[<-henv];simp
 obtain⟨ge,cape,rfl,m0,m1,m2⟩:=H.o.bnd hmid;have HMID:=bV hmid;have⟨_,_,_,a3,_⟩:=H.o.cells;obtain⟨P,hP⟩:∃P,pre.length=P:=⟨_,rfl⟩;rw[hP]at m0 m1 m2 hpl HMID;have HP:=bV hP;have hPi:(P:Int)<(env.length:Int):=oM;clear h hways hfirst henv hmid hP;go_in;go_wp21;go_loopg[5] P (λm iv wr=>∃i:Nat,iv=vI i/\wr=w/\i+m=P)
 case atStart=>exact⟨0,rfl,rfl,oM⟩
 case round=>
  obtain⟨i,rfl,rfl,hi⟩:=hrel;rcases jD (show i<=P by omega)with rfl|hlt;rotate_left
  ·have hgi:∃b,env[i]?=some b/\b.1≠j:=by
    have:=HP.o;obtain⟨b,hb⟩:∃b,pre[i]?=some b:=⟨_,fA oM⟩;refine⟨b,?_,HF.o b (dD hb)⟩;rw[<-HE.o,iA oM];exact hb
   have⟨b,hb,hbj⟩:=hgi;have⟨ge',cape',e,n0,_,_⟩:=H.o.bnd hb;cases e;have hbi:¬(b.1:Int)=(j:Int):=oM;have hii:(i:Int)<(env.length:Int):=oM;clear hb hbj;go_wp21;go_roundg (P-(i+1))
   case measure=>omega
   case rel=>exact⟨i+1,by push_cast;rfl,rfl,oM⟩
  ·obtain⟨w0,rfl⟩:∃w0,w0=wr:=⟨_,rfl⟩;go_upto_region 5 with fail;have g1:=zwA w0 (.cells #[vI j,vI r,.bool an] 284) none;have n1:=Ac w0 (.cells #[vI j,vI r,.bool an] 284);have z1:(w0.alloc (.cells #[vI j,vI r,.bool an] 284)).heap.size=w0.heap.size+1:=sM;generalize w0.alloc (.cells #[vI j,vI r,.bool an] 284)=w1 at g1 n1 z1 ⊢;obtain⟨nb,hnb⟩:∃nb,w0.heap.size=nb:=⟨_,rfl⟩;rw[hnb];rw[hnb]at n1 z1;have S1:=bV (H.o.grown g1);have G1:=bV g1;have N1:=bV n1;have v1:w1.cell? (aD nb 1)=some (vI r):=zcR n1;have v2:w1.cell? (aD nb 2)=some (.bool an):=zcR n1;have HNB:=bV hnb;clear g1 n1 m0 m1 m2 a3 hnb;rcases HW.o with⟨rfl,rfl⟩|⟨rfl,⟨n,hq⟩,hql⟩
   ·go_wp21;go_ret;exact⟨rfl,TK.Ae _ _ G1.o,lv,S1.o⟩
   ·have HQ:=bV hq;clear hq HW;obtain⟨pl,cl,rfl⟩:=S1.o.slice;have⟨_,b1,_,_,_⟩:=S1.o.cells;have⟨MC,hMC,hmk⟩:=za9 350 4 (.bool false) l.length 1 underlying350 kR oM rfl hfew;have⟨MD,hMD,hmd⟩:=za9 33 3 (vI 0) l.length 8 underlying33 kR oM rfl hfew;have HMC:=bV hMC;have HMD:=bV hMD;have HMKD:=bV hmd;have hq:=HQ.o;unfold Rf.Bg at hq;have⟨mkF,hmF,hq⟩:=zbE.1 hq;have⟨q3,hq3,hq⟩:=zbE.1 hq;cases hq;have HMF:=bV hmF;have HQ3:=bV hq3;clear hMC hMD hmd hmF hq3 HQ;go_upto_region 8 with fail;have g2:=zwA w1 (.cells MC 4) none;have r2:=Bf.made (W:=w1) (e:=4) hfew HMC.o;rw[z1]at r2;generalize w1.alloc (.cells MC 4)=w2 at g2 r2 ⊢;have S2:=bV (S1.o.grown g2);have G2:=bV (Ab G1.o g2);have N2:=bV ((g2.block nb oM sM).trans N1.o);have R2:Hid (Bf w2 (nb+1) 4 (.slice (some ⟨nb+1,0,none⟩) l.length l.length) ((List.replicate l.length false).map Value.bool)):=(by rw[List.map_replicate];exact bV r2);clear g2 r2 v1 v2 b1 S1 N1 hmk;go_wp21;go_loopg[8] i (λm iv wx=>∃(i2:Nat) (mc:List Bool),iv=vI i2/\i2+m=i/\Hid (ST wx B bs bt l bad env (.slice pl l.length cl) (sL ge env.length cape) sv)/\Hid (Bf wx (nb+1) 4 (.slice (some ⟨nb+1,0,none⟩) l.length l.length) (mc.map Value.bool))/\Hid (w2.grownBy wx (some (nb+1)))/\Hid (mc.length=l.length)/\Hid (Q8 n l (Uo (pre.drop i2)) mc=some mkF))
    case atStart=>exact⟨0,List.replicate l.length false,rfl,oM,S2,R2,bV (He (Aa w2)),bV sM,HMF⟩
    case round=>
     obtain⟨i2,mc,rfl,hi2,SX,RX,GX,LX,FX⟩:=hrel;rcases jD (show i2<=i by omega)with rfl|hlt;rotate_left
     ·obtain⟨b,hb⟩:∃b,pre[i2]?=some b:=⟨_,fA (by have:=HP.o;omega)⟩;have hd:pre.drop i2=b::pre.drop (i2+1):=by
       obtain⟨h1,rfl⟩:=zlE.1 hb;exact lD h1
      have hbe:env[i2]?=some b:=(by rw[<-HE.o,iA (by have:=HP.o;omega)];exact hb);have⟨ge',cape',e,_,n1,n2⟩:=SX.o.bnd hbe;cases e;have⟨_,_,_,a3,_⟩:=SX.o.cells;have hii:(i2:Int)<(env.length:Int):=oM;have hix:(i2:Int)<(i:Int):=oM;have hf:=FX.o;rw[hd]at hf;have⟨x1,x2,x3⟩:=b;clear hb hbe hd;cases x3 with
      |true=>
       have FX2:Hid (Q8 n l (Uo (pre.drop (i2+1))) mc=some mkF):=bV hf;clear hf FX;go_wp21;go_roundg (i-(i2+1))
       case measure=>omega
       case rel=>exact⟨i2+1,mc,by push_cast;rfl,oM,SX,RX,GX,LX,FX2⟩
      |false=>
       have hf:Q8 n l (x2::Uo (pre.drop (i2+1))) mc=some mkF:=hf;rw[Q8]at hf;have⟨mc2,hf1,hf2⟩:=zbE.1 hf;have F1:=bV hf1;have F2:=bV hf2;clear hf hf1 hf2 FX;go_wp21;go_call zte SX.o RX.o LX.o F1.o as e3 w3 ⟨rfl,hg3,hr3⟩;have S3:=bV (SX.o.beside RX.o ⟨dZ,dZ,dZ⟩ (λe=>absurd e dZ) hg3);have R3:=bV hr3;have G3:=bV (A6 GX.o hg3);have L3:=bV ((Xy F1.o).trans LX.o);clear hg3 hr3 n1 n2 a3 SX RX GX;go_wp21;go_roundg (i-(i2+1))
       case measure=>omega
       case rel=>exact⟨i2+1,mc2,by push_cast;rfl,oM,S3,R3,G3,L3,F2⟩
     ·have hf:=FX.o;rw[List.drop_eq_nil_of_le (by rw[HP.o];exact znL _)]at hf;obtain rfl:mc=mkF:=(by simpa[Uo,Q8]using hf);have⟨_,b1,_,_,_⟩:=SX.o.cells;have hmk:=HMKD.o;clear hf FX;go_upto_region 14 with fail;have g4:=zwA wr (.cells MD 3) none;have r4:=Bf.made (W:=wr) (e:=3) hfew HMD.o;generalize wr.alloc (.cells MD 3)=w4 at g4 r4 ⊢;obtain⟨cb,hcb⟩:∃cb,wr.heap.size=cb:=⟨_,rfl⟩;rw[hcb]at r4;rw[hcb];have hcz:nb+1<cb:=by
       rw[<-hcb];have h1:=(RX.o.blk rfl);have⟨c,hc⟩:=h1;exact(zgE.1 hc).1
      have S4:=bV (SX.o.grown g4);have M4:=bV (RX.o.grown g4);have R4:=bV r4;have G4:=bV (A6 GX.o (He g4));clear g4 r4 hcb b1 SX RX GX hmk;go_wp21;go_loopg[10] l.length (λm iv wy=>∃i3:Nat,iv=vI i3/\i3+m=l.length/\Hid (Bf wy cb 3 (sL cb l.length l.length) (List.replicate i3 (vI (-1))++List.replicate m (vI 0)))/\Hid (w4.grownBy wy (some cb)))
      case atStart=>exact⟨0,rfl,oM,by simpa using R4,bV (He (Aa w4))⟩
      case round=>
       obtain⟨i3,rfl,hi3,RY,GY⟩:=hrel;rcases jD (show i3<=l.length by omega)with he|hlt;rotate_left
       ·obtain⟨m,rfl⟩:∃m,gk=m+1:=⟨gk-1,oM⟩;have hget:(List.replicate i3 (vI (-1))++List.replicate (m+1) (vI 0))[i3]?=some (vI 0):=by
         rw[fB sM];simp
        obtain⟨_,e,-,y0,yf,-,-⟩:=RY.o.at' hget;cases e;have⟨R5,G5⟩:=RY.o.set (k:=i3) rfl (vI (-1));have e5:(List.replicate i3 (vI (-1))++List.replicate (m+1) (vI 0)).set i3 (vI (-1))=List.replicate (i3+1) (vI (-1))++List.replicate m (vI 0):=by
         rw[aE _ _ sM,wD,Nat.sub_self,List.replicate_succ,zsZ,List.replicate_succ',wA];rfl
        rw[e5]at R5;have R5:=bV R5;have G5:=bV (A6 GY.o G5);have hix:(i3:Int)<(l.length:Int):=oM;clear hget e5 RY GY;go_wp21;go_roundg m
        case measure=>omega
        case rel=>exact⟨i3+1,by push_cast;rfl,oM,R5,G5⟩
       ·obtain rfl:gk=0:=oM;rw[he,List.replicate_zero,List.append_nil]at RY;have C5:Hid (Bf wr cb 3 (sL cb l.length l.length) ((List.replicate l.length (none:Option Nat)).map cpV)):=(by rw[List.map_replicate];exact RY);have hsv:∀g,(sL cb l.length l.length).ownBlock=some g->sv.ownBlock≠some g:=λg hg e=>by
         have e1:cb=g:=(by simpa[Value.ownBlock]using hg);have⟨_,hs⟩:=H.o.seen;have h1:=(hs.lt _ e).2;have h3:=HNB.o;omega
        have S5:=bV (S4.o.beside R4.o ⟨dZ,dZ,dZ⟩ (λ_=>hsv) GY.o);have M5:=bV (M4.o.kept λg hg=>by
         have e1:nb+1=g:=(by simpa[Value.ownBlock]using hg);subst e1;have⟨c,hc⟩:=M4.o.blk rfl;exact GY.o.block _ (zgE.1 hc).1 (by simp;omega))
        have NN:wr.heap[nb]?=some (.cells #[vI j,vI r,.bool true] 284):=(GY.o.block nb (aB (zgE.1 N2.o).1 G4.o.size) (by simp;omega)).trans ((G4.o.block nb (zgE.1 N2.o).1 sM).trans N2.o);have v1:wr.cell? (aD nb 1)=some (vI r):=zcR NN;have AN:=bV (ztd hsv n r l _ q3 HQ3.o hql _ _ S5.o M5.o C5.o);clear NN RY S4 M4;go_wp21;go_call AN.o as e6 w6 ⟨rfl,lv6,hf6,hs6,hc6⟩;have S6:=bV hs6;have K6:Hid (TK B StS w0 w6):=by
         -- from w0 to wr:all that lay there lies there;then what turns the store
         have A:zG w0 wr:=⟨GY.o.os.trans (G4.o.os.trans G2.o.os),GY.o.tape.trans (G4.o.tape.trans G2.o.tape),GY.o.output.trans (G4.o.output.trans G2.o.output),kB G2.o.size (kB G4.o.size GY.o.size),λk hk _=>by
          have h3:=HNB.o;exact(GY.o.block k (aB hk (kB G2.o.size G4.o.size)) (by simp;omega)).trans ((G4.o.block k (aB hk G2.o.size) (by simp;omega)).trans (G2.o.block k hk sM))⟩
         have f:SF bs none (.slice pl l.length cl) lv6 w0 w6:={os:=hf6.os.trans A.os,tape:=hf6.tape.trans A.tape,output:=hf6.output.trans A.output,size:=kB A.size hf6.size,block:=λ{k} h1 h2 h3 _=>(hf6.block (aB h1 A.size) h2 h3 (by have:=HNB.o;simp[Value.ownBlock];omega)).trans (A.block k h1 sM),next:=λ{g} e=>(hf6.next e).imp id (λe=>kB A.size e)};exact bV (SF.tk H.o f)
        clear hf6 hs6 hc6;go_wp21;go_ret;exact⟨rfl,K6.o,lv6,S6.o⟩
end
end
section
def OfS:List TypeId:=[155,281,284,3]
theorem Hx{B:Nat}{w w':World}(h:TK B StS w w'):TK B OfS w w':=h.sub dZ
section
variable {w w':World}{B Br bs bt:Nat}{s:ByteArray}{body:List Tw.Tok}{N:List Tw.Rf.RN}{tv nv:Value}{root er:Int}{l:List Tw.Rf.RC}{bad:Bool}{env:List Bnd}{lv lv' ev sv:Value}
variable{E:List Bnd}{b:Bnd}
theorem RT.tk(h:RT w Br bt s body N tv nv root er)(k:TK B OfS w w'):RT w' Br bt s body N tv nv root er:=
 {h with tree:=k.cells h.tree dZ,Eh:=Ai h.Eh λg c a=>k.cells a dZ,nodes:=Ai h.nodes λg c a=>k.cells a dZ}
def Oe:Value->Nat
 |.slice _ n _=>n
 |_=>0
def OC(B Br bs bt:Nat)(s:ByteArray)(body:List Tw.Tok)(N:List RN)(tv nv:Value)(root er:Int)(z:Nat)(k:Int)(E:List Bnd)(sa:Rf.RS)(r:Nat)(a:Rf.RS):Prop:=
 ∀(w:World) (lv ev sv:Value),Oe sv+z<=10000->RT w Br bt s body N tv nv root er->ST w B bs bt sa.l sa.bad E lv ev sv->Calls prog 71 #[.pointer (some ⟨bs,0,none⟩),.int .i64 k] w λe w'=>e=.returned (.int .i64 r)/\TK B OfS w w'/\∃lv' d c,Oe c<=Oe sv+z/\ST w' B bs bt a.l a.bad E lv' d c
def WiC(B Br bs bt:Nat)(s:ByteArray)(body:List Tw.Tok)(N:List RN)(tv nv:Value)(root er:Int)(z:Nat)(b:Bnd)(k:Int)(E:List Bnd)(sa:Rf.RS)(r:Nat)(a:Rf.RS):Prop:=
 ∀(w:World) (lv ev sv:Value),Oe sv+z<=10000->RT w Br bt s body N tv nv root er->ST w B bs bt sa.l sa.bad E lv ev sv->Calls prog 132 #[.pointer (some ⟨bs,0,none⟩),.agg #[.int .i64 b.1,.int .i64 b.2.1,.bool b.2.2],.int .i64 k] w λe w'=>e=.returned (.int .i64 r)/\TK B OfS w w'/\∃lv' d c,Oe c<=Oe sv+z/\ST w' B bs bt a.l a.bad E lv' d c
theorem ST.zvo(h:ST w B bs bt l bad env lv ev sv):∃p c,ev=.slice p env.length c:=by
 rcases h.Ly.2 with⟨a,d⟩|⟨f,e,_,a,_⟩
 ·exact⟨_,_,by rw[a,d]⟩
 ·exact⟨_,_,a⟩
theorem ST.zwd(h:ST w B bs bt l bad env lv ev sv)(i:0<env.length):∃g cap,ev=sL g env.length cap/\env.length<=cap:=by
 rcases h.Ly.2 with⟨a,e⟩|⟨f,d,_,a,_,_,c,_⟩
 ·omega
 ·exact⟨_,_,a,c⟩
theorem zha:∀E:List Bnd,(E.flatMap zbl).length=E.length*3
 |[]=>rfl
 |b::E=>by rw[List.flatMap_cons,eA,zha E,zB];simp[zbl];omega
theorem ST.zwm{g n cap:Nat}{v:Value}(h:ST w B bs bt l bad (E++[b]) lv (sL g n cap) sv)(y:n=E.length+1)(hv:v=sL g E.length cap):ST (w.setCell (aD bs 3) v) B bs bt l bad E lv v sv:=by
 subst y hv;have Aq:∀ {j:Nat} {c:Array Value} {d:TypeId},d≠155->w.heap[j]?=some (.cells c d (0,0))->(w.setCell (aD bs 3) (sL g E.length cap)).heap[j]?=some (.cells c d (0,0)):=λ{j c d} A a=>(aA w (aD bs 3) j _ (by rintro rfl;rw[h.store]at a;cases a;exact A rfl)).trans a;have⟨C,z⟩:=h.seen;refine⟨Bu h.store _,Ai h.types λg c a=>Aq dZ a,?_,⟨C,Ai z λg c a=>Aq dZ a⟩,h.low,h.few⟩;have x:=Ai h.Ly λg c a=>Aq dZ a;have⟨i,f⟩:=x;rw[List.flatMap_append,eA]at i f;simp only[List.flatMap_cons,List.flatMap_nil,List.append_nil,zB,zD,Nat.zero_add]at i f;have k:=zha E;refine⟨k,?_⟩;rcases f with⟨e,_⟩|⟨G,F,t,e,m,o,D,p,q,r⟩
 ·cases e
 ·cases e;refine .inr ⟨g,cap,t,rfl,m,o,oM,p,q,?_⟩
  have:=congrArg (List.take (E.length*3)) r;rw[List.take_take,List.take_left' k,show min (E.length*3) ((E.length+1)*3)=E.length*3 by omega]at this;exact this
theorem zva(h:ST w B bs bt l bad env lv ev sv)(a:w.grownBy w' ev.ownBlock):TK B OfS w w' where
 low:=λ{k} q j=>a.block k j (λe=>by have:=(h.Ly.lt k e.symm).1;omega)
 os:=a.os
 tape:=a.tape
 output:=a.output
 size:=a.size
 cells:=λi g=>Eu h.Ly a i (λe=>by rw[e]at g;revert g;decide)
 other:=λ{k r} d m=>(a.block k (zgE.1 d).1 (λe=>by
  rcases h.Ly.2 with⟨c,_⟩|⟨p,n,o,c,_,f,_⟩
  ·rw[c]at e;simp[Value.ownBlock]at e
  ·rw[c]at e;simp[Value.ownBlock]at e;subst e;rw[d]at f;cases f;exact m _ _ _ rfl)).trans d
theorem Tryz.zt6:(Tryz.prog.info? 284).map (λi=>(i.zero,i.size,i.bytes))=some (some (.agg #[vI 0,vI 0,.bool false]),3,24):=kR
theorem Zs{k:Int}{sa sb:Rf.RS}{r z:Nat}(hE:E.length<=100000)(hO:OC B Br bs bt s body N tv nv root er z k (E++[b]) sa r sb):WiC B Br bs bt s body N tv nv root er z b k E sa r sb:=by
 intro w lv ev sv hz ht h;have⟨b1,b2,b3⟩:=b;have⟨i0,hi0,hz0,hz1,hz2⟩:=info_parts Tryz.zt6;have hbs:bs<w.heap.size:=(zgE.1 h.store).1;go_in;go_upto_region 1 with fail;have g1:=zwA w (.cells #[vI b1,vI b2,.bool b3] 284) none;have n1:=Ac w (.cells #[vI b1,vI b2,.bool b3] 284);have s1:(w.alloc (.cells #[vI b1,vI b2,.bool b3] 284)).heap.size=w.heap.size+1:=sM;obtain⟨p,cc,rfl⟩:=h.zvo;have hown:∀k,(Value.slice p E.length cc).ownBlock=some k->k<w.heap.size:=λk hk=>(h.Ly.lt k hk).2;have H1:=h.grown g1;have HT1:=ht.grown g1;have hmx:prog.follows .mixedOrders=true:=kR;generalize w.heap.size=tb at n1 s1 hbs hown ⊢;generalize w.alloc (.cells #[vI b1,vI b2,.bool b3] 284)=w1 at g1 n1 s1 H1 HT1 ⊢;have hlow:=H1.low;have CL:∀W,w1.grownBy W (Value.slice p E.length cc).ownBlock->W.cell? (aD tb 0)=some (vI b1)/\W.cell? (aD tb 1)=some (vI b2)/\W.cell? (aD tb 2)=some (.bool b3):=λW hW=>by
  have m:W.heap[tb]?=_:=(hW.block tb (zgE.1 n1).1 (λe=>?_)).trans n1
  ·refine⟨?_,?_,?_⟩<;>(rw[mB _ _ _ _ _ _ m];rfl)
  ·have:=hown tb e.symm;omega
 refine Ga (λW=>W.cell? (aD tb 0)=some (vI b1)/\W.cell? (aD tb 1)=some (vI b2)/\W.cell? (aD tb 2)=some (.bool b3)) hmx (CL _ (Ay (Ad (Aa w1)))) ?_;intro hSd;refine tkH 0 (v:=pT bs) rfl (λW _=>by go_simp) hSd ?_;simp[Act.put];refine tkH 1 (v:=pT bs) rfl (λW _=>by go_simp) hSd ?_;simp[Act.put];refine tkH 2 (v:=pT bs) rfl (λW _=>by go_simp) hSd ?_;simp[Act.put];refine tkH 3 (v:=.pointer (some (aD bs 3))) rfl (λW _=>by go_simp) hSd ?_;simp[Act.put];refine tkH 5 (v:=.agg #[vI b1,vI b2,.bool b3]) rfl (λW ⟨e0,e1,e2⟩=>by go_simp) hSd ?_;simp[Act.put];refine gE (rs:=[4,6]) kR sM ?_;refine yA rfl (λK hK=>?_) (yA rfl (λK hK=>?_) zA)
 case' _=>
  have⟨_,_,_,c10,_⟩:=(H1.grown (Ad (Aa w1))).cells;go_simp;refine hK.out _ _ (CL _ (Ay (Ad (Aa w1)))) (λhSd=>?_);refine gE (rs:=[6]) kR sM ?_;refine yA rfl (λK hK=>?_) zA;go_simp;refine hK.out _ _ (CL _ (Ay (Aj (Ad (Aa w1)) _))) (λhSd=>?_)
 rotate_left
 case' _=>
  go_simp;refine hK.out _ _ (CL _ (Ay (Ad (Aj (Aa w1) _)))) (λhSd=>?_);refine gE (rs:=[4]) kR sM ?_;refine yA rfl (λK hK=>?_) zA;have⟨_,_,_,c10,_⟩:=(H1.grown (Ad (Aj (Aa w1) (.cells #[vI b1,vI b2,.bool b3] 284)))).cells;go_simp;refine hK.out _ _ (CL _ (Ay (Ad (Aj (Aa w1) _)))) (λhSd=>?_)
 all_goals
  have GA:w1.grownBy (w1.drew.alloc (.cells #[vI b1,vI b2,.bool b3] 284)) none:=Aj (Ad (Aa w1)) _;have NA:(w1.drew.alloc (.cells #[vI b1,vI b2,.bool b3] 284)).heap[w1.heap.size]?=some (.cells #[vI b1,vI b2,.bool b3] 284):=Ac w1.drew _;have HA:=H1.grown GA;have TA:=HT1.grown GA;have hsz:w1.heap.size<(w1.drew.alloc (.cells #[vI b1,vI b2,.bool b3] 284)).heap.size:=sM;obtain⟨wa,hwa⟩:∃wa,w1.drew.alloc (.cells #[vI b1,vI b2,.bool b3] 284)=wa:=⟨_,rfl⟩;rw[hwa]at GA NA HA TA hsz
  first
   |rw[hwa]
   |rw[show(w1.alloc (.cells #[vI b1,vI b2,.bool b3] 284)).drew=w1.drew.alloc (.cells #[vI b1,vI b2,.bool b3] 284)from rfl,hwa]
  rw[s1]at NA hsz;refine gE (rs:=[7]) kR sM ?_;refine yA rfl (λK hK=>?_) zA;rw[mA (by rfl)];refine wp_append_lies _ _ _ 153 rfl B 284 i0 (.agg #[vI 0,vI 0,.bool false]) 3 24 underlying153 hi0 hz0 hz1 hz2 rfl dZ (.slice p E.length cc) E.length (E.flatMap zbl) rfl HA.Ly ⟨tb+1,0,none⟩ 1 1 [vI b1,vI b2,.bool b3] rfl rfl (jE NA) (by intro u hu;simp at hu;rcases hu with rfl|rfl|rfl<;>rfl) dZ (by unfold maxLen;omega) oM oM _ rfl ?_;intro g5 cap5 w5 hown5 hgrow5 hat5 _;have GW5:wa.grownBy w5 (Value.slice p E.length cc).ownBlock:=⟨hgrow5.os,hgrow5.tape,hgrow5.output,hgrow5.size,hgrow5.block⟩;have C5:=CL _ (Ec GA GW5);have S5:=Eu HA.Ly GW5 HA.store dZ;have E5:=Ai HA.types λg c hc=>Eu HA.Ly GW5 hc dZ;have⟨sn,hsn⟩:=HA.seen;have Q5:=Ai hsn λg c hc=>Eu HA.Ly GW5 hc dZ;have m5:w5.heap[tb]?=_:=((Ec GA GW5).block tb (zgE.1 n1).1 (λe=>by have:=hown tb e.symm;omega)).trans n1;have K5:=(TK.Ae B OfS (Ab g1 GA)).trans (zva HA GW5);refine hK.out _ _ C5 (λhSd=>?_);refine gE (rs:=[8]) kR sM ?_;refine yA rfl (λK hK=>?_) zA;go_simp;refine hK.out _ _ C5 (λhSd=>?_);refine gE (rs:=[9]) kR sM ?_;refine yA rfl (λK hK=>?_) zA;go_simp;refine hK.out _ _ C5 (λhSd=>?_);refine gE (rs:=[10]) kR sM ?_;refine yA rfl (λK hK=>?_) zA;have fz:w5.frozen? (aD bs 3)=false:=eB _ _ _ _ _ S5;have cz:w5.cell? (aD bs 3)=some (.slice p E.length cc):=zcR S5;go_simp;have X5:ST w5 B bs bt sa.l sa.bad E lv (.slice p E.length cc) sv->True:=λ_=>trivial;have S6:(w5.setCell (aD bs 3) (sL g5 (E.length+1) cap5)).heap[bs]?=some (.cells #[pT bt,lv,.bool sa.bad,sL g5 (E.length+1) cap5,sv] 155 (0,0)):=Bu S5 _;have Aq:∀ {g:Nat} {c:Array Value} {u:TypeId},u≠155->w5.heap[g]?=some (.cells c u (0,0))->(w5.setCell (aD bs 3) (sL g5 (E.length+1) cap5)).heap[g]?=some (.cells c u (0,0)):=λ{g c u} hu hc=>(aA w5 (aD bs 3) g _ (by rintro rfl;rw[S5]at hc;cases hc;exact hu rfl)).trans hc;have m6:=Aq dZ m5;refine hK.out _ _ ?_ (λ_=>?_)
  ·refine⟨?_,?_,?_⟩<;>(rw[mB _ _ _ _ _ _ m6];rfl)
  have K6:=K5.trans (Hx (Wk (j:=3) S5 hlow (sL g5 (E.length+1) cap5)));have X6:ST (w5.setCell (aD bs 3) (sL g5 (E.length+1) cap5)) B bs bt sa.l sa.bad (E++[(b1,b2,b3)]) lv (sL g5 (E.length+1) cap5) sv:=by
   refine⟨S6,Ai E5 λg c hc=>Aq dZ hc,?_,⟨sn,Ai Q5 λg c hc=>Aq dZ hc⟩,hlow,HA.few⟩;have h6:=Ai hown5 λg c hc=>Aq dZ hc;rw[eA,List.flatMap_append];exact h6
  have T6:=ht.tk K6;generalize w5.setCell (aD bs 3) (sL g5 (E.length+1) cap5)=w6 at K6 X6 T6 ⊢;refine iE kR ⟨rfl,?_⟩ _;go_wp21;go_call hO _ _ _ _ hz T6 X6 as e7 w7 ⟨rfl,hk7,lv7,ev7,sv7,hv7,hs7⟩;have K7:=K6.trans hk7;obtain⟨g7,cap7,rfl,hg7⟩:=hs7.zwd sM;go_upto_region 3 with fail;have hl7:(E++[(b1,b2,b3)]).length=E.length+1:=sM;rw[hl7]at hs7 hg7;have⟨_,_,_,c3,_⟩:=hs7.cells;have f3:w7.frozen? (aD bs 3)=false:=eB _ _ _ _ _ hs7.store;have X8:=hs7.zwm (v:=sL g7 E.length cap7) (E:=E) (b:=(b1,b2,b3)) rfl rfl;have K8:=K7.trans (Hx (Wk (j:=3) hs7.store hs7.low (sL g7 E.length cap7)));go_region;go_wp21;go_ret;exact⟨rfl,K8.trans (TK.Ae _ _ (Ad (Aa _))),_,_,_,hv7,X8.grown (Ad (Aa _))⟩
end
end
section
section
variable {B Br bs bt z:Nat}{s:ByteArray}{body:List Tw.Tok}{N:List Tw.Rf.RN}{tv nv:Value}{root er:Int}
variable{E:List Bnd}{sa:Tw.Rf.RS}
theorem Ny{k:Int}(b:sa.bad=true):OC B Br bs bt s body N tv nv root er z k E sa 0 sa:=by
 intro w g d i f e h;have⟨c,_,a,_,_⟩:=h.cells;rw[b]at a;go_in;go_wp21;go_ret;exact⟨rfl,TK.refl _ _ _,_,_,_,oM,h⟩
theorem zj9{k:Nat}{x:RN}{c:Rf.RS}{r:Nat}(l:N[k]?=some x)(v:sa.bad=false)(m:c.l.length<=5000000)
  (A:(x.sort=105/\r=sa.l.length/\c=sa.put ⟨105,0,0,none⟩)\/((x.sort=116\/x.sort=102)/\r=sa.l.length/\c=sa.put ⟨98,0,0,none⟩)\/(x.sort=103/\OC B Br bs bt s body N tv nv root er z x.a E sa r c)) :
  OC B Br bs bt s body N tv nv root er z k E sa r c:=by
 intro w U P X T i j;have S:=(zlE.1 l).1;have⟨_,_,Y,_,_⟩:=i.cells;obtain⟨Q,D,rfl,q,F,G,H,I,J,L,M,O,_⟩:=i.node l;have⟨C,_,p,_,_⟩:=j.cells;have R:(k:Int)<(N.length:Int):=oM;rw[v]at p;obtain⟨so,e⟩:∃so:Int,(x.sort:Int)=so:=⟨_,rfl⟩;rw[e]at q;go_in;go_upto_region 4 with fail;have d:=zwA w (.cells #[vU so,vI x.a,vI x.b,vI x.c,vI x.first,vI x.last,vI x.name,vI x.binder,.bool false] 276) none;have f:=Ac w (.cells #[vU so,vI x.a,vI x.b,vI x.c,vI x.first,vI x.last,vI x.name,vI x.binder,.bool false] 276);generalize w.alloc (.cells #[vU so,vI x.a,vI x.b,vI x.c,vI x.first,vI x.last,vI x.name,vI x.binder,.bool false] 276)=w1 at d f ⊢;generalize w.heap.size=nb at f ⊢;have b:=j.grown d;have o:=i.grown d;have h:=TK.Ae B OfS d;have V:w1.cell? (aD nb 0)=some (vU so):=zcR f;go_upto_region 5 with fail;rcases A with⟨n,rfl,rfl⟩|⟨n,rfl,rfl⟩|⟨n,t⟩
 ·obtain rfl:so=105:=by have:=e;omega
  have g:=Mc b ⟨105,0,0,none⟩ rfl 0 (by simpa[Rf.RS.put]using m);go_wp21;go_call g as e2 w2 ⟨rfl,lv2,hf,hs2⟩;have a:=h.trans (Hx (SF.tk b hf));go_wp21;go_ret;exact⟨rfl,a,_,_,_,oM,hs2⟩
 ·have y:so=116\/so=102:=by have:=e;omega
  have g:=Mc b ⟨98,0,0,none⟩ rfl 0 (by simpa[Rf.RS.put]using m);rcases y with rfl|rfl
  all_goals
   go_wp21;go_call g as e2 w2 ⟨rfl,lv2,hf,hs2⟩;have a:=h.trans (Hx (SF.tk b hf));go_wp21;go_ret;exact⟨rfl,a,_,_,_,oM,hs2⟩
 ·obtain rfl:so=103:=by have:=e;omega
  have W:w1.cell? (aD nb 1)=some (vI x.a):=zcR f;go_wp21;go_call t _ _ _ _ oM o b as e2 w2 ⟨rfl,hk2,lv2,ev2,sv2,hv2,hs2⟩;have a:=h.trans hk2;go_wp21;go_ret;exact⟨rfl,a,_,_,_,oM,hs2⟩
end
end
section
section
variable {B Br bs bt z:Nat}{s:ByteArray}{body:List Tw.Tok}{N:List Tw.Rf.RN}{tv nv:Value}{root er:Int}
variable{sa:Tw.Rf.RS}
theorem Xz{w:World}{lv ev sv:Value}{env:List Bnd}{n a b:Nat}{d:Rf.RS}(h:ST w B bs bt sa.l sa.bad env lv ev sv)(c:Re n a b sa=some d):
  Calls prog 131 #[pT bs,vI a,vI b] w λe w'=>e=.returned (.tuple #[])/\TK B OfS w w'/\ST w' B bs bt d.l d.bad env lv ev sv:=by
 unfold Re at c;have⟨r,f,c⟩:=zbE.1 c;cases c;go_call ztc h (kB List.countP_le_length h.few) f as e w' ⟨h1,h2,h3⟩;exact⟨h1,Hx h2,h3⟩
theorem zli{k:Nat}{x:RN}{pre post:List Bnd}{j e:Nat}{a:Bool}{q:Nat×List RC}(f:N[k]?=some x)(L:sa.bad=false)(M:(pre++(j,e,a)::post).length<=100000)(O:∀b∈pre,b.1≠j)(W:x.sort=120)(m:x.binder=(j:Int))
  (p:(a=false/\q=(e,sa.l))\/(a=true/\(∃n,Rf.Bg n (Uo pre) e sa.l=some q)/\q.2.length<=5000000)) :
  OC B Br bs bt s body N tv nv root er z k (pre++(j,e,a)::post) sa q.1 ⟨q.2,sa.bad⟩:=by
 intro w Y R sv X g h;have r:=bV m;clear m;have V:=(zlE.1 f).1;have⟨_,_,P,_,_⟩:=g.cells;obtain⟨S,Q,rfl,l,C,D,E,F,G,H,I,J,_⟩:=g.node f;have⟨A,_,i,_,_⟩:=h.cells;have T:(k:Int)<(N.length:Int):=oM;rw[L]at i;obtain⟨so,o⟩:∃so:Int,(x.sort:Int)=so:=⟨_,rfl⟩;rw[o]at l;clear f;go_in;go_upto_region 4 with fail;have c:=zwA w (.cells #[vU so,vI x.a,vI x.b,vI x.c,vI x.first,vI x.last,vI x.name,vI x.binder,.bool false] 276) none;have d:=Ac w (.cells #[vU so,vI x.a,vI x.b,vI x.c,vI x.first,vI x.last,vI x.name,vI x.binder,.bool false] 276);generalize w.alloc (.cells #[vU so,vI x.a,vI x.b,vI x.c,vI x.first,vI x.last,vI x.name,vI x.binder,.bool false] 276)=w1 at c d ⊢;generalize w.heap.size=nb at d ⊢;have y:=h.grown c;have t:=TK.Ae B OfS c;have Z:w1.cell? (aD nb 0)=some (vU so):=zcR d;clear c A i P l C D E F G H I J h g;go_upto_region 5 with fail;obtain rfl:so=120:=by have:=o;omega
 have m7:w1.cell? (aD nb 7)=some (vI j):=by rw[mB _ _ _ _ _ _ d,<-r.o];rfl
 have U:=zu9 y O M p;clear p;go_wp21;go_call U as e2 w2 ⟨rfl,hk2,lv2,hs2⟩;have v:=t.trans (Hx hk2);clear hk2;go_wp21;go_ret;exact⟨rfl,v,_,_,_,oM,hs2⟩
end
end
section
section
variable {B Br bs bt z z1 z2:Nat}{s:ByteArray}{body:List Tw.Tok}{N:List Tw.Rf.RN}{tv nv:Value}{root er:Int}
theorem zqs{k:Nat}{x:RN}{E:List Bnd}{sa s1 s2 sb:Rf.RS}{r a b:Nat}(hk:N[k]?=some x)(hzz:z1+z2<=z)(hbad:sa.bad=false)(hlen:sb.l.length<=5000000)
  (hA:OC B Br bs bt s body N tv nv root er z1 x.a E sa a s1) (hB:OC B Br bs bt s body N tv nv root er z2 x.b E s1 b s2)
  (hways:(x.sort=44/\r=s2.l.length/\sb=s2.put ⟨42,a,b,none⟩)\/(x.sort=97/\r=s2.l.length/\∃n,Re n a (s2.l.length+1) ((s2.put ⟨118,0,0,none⟩).put ⟨62,b,s2.l.length,none⟩)=some sb)) :
  OC B Br bs bt s body N tv nv root er z k E sa r sb:=by
 intro w lv ev sv hz ht h;have hklt:=(zlE.1 hk).1;have⟨_,_,t2,_,_⟩:=ht.cells;obtain⟨g,cap,rfl,d0,d1,d2,d3,d4,d5,d6,d7,d8,_⟩:=ht.node hk;have⟨a0,_,a2,_,_⟩:=h.cells;have hkl:(k:Int)<(N.length:Int):=oM;rw[hbad]at a2;obtain⟨so,hso⟩:∃so:Int,(x.sort:Int)=so:=⟨_,rfl⟩;rw[hso]at d0;have HSO:=bV hso;have HW:=bV hways;have H:=bV h;have HT:=bV ht;go_in;go_upto_region 4 with fail;have g1:=zwA w (.cells #[vU so,vI x.a,vI x.b,vI x.c,vI x.first,vI x.last,vI x.name,vI x.binder,.bool false] 276) none;have n1:=Ac w (.cells #[vU so,vI x.a,vI x.b,vI x.c,vI x.first,vI x.last,vI x.name,vI x.binder,.bool false] 276);generalize w.alloc (.cells #[vU so,vI x.a,vI x.b,vI x.c,vI x.first,vI x.last,vI x.name,vI x.binder,.bool false] 276)=w1 at g1 n1 ⊢;generalize w.heap.size=nb at n1 ⊢;have S1:=bV (H.o.grown g1);have T1:=bV (HT.o.grown g1);have K1:=bV (TK.Ae B OfS g1);have N1:=bV n1;have m0:w1.cell? (aD nb 0)=some (vU so):=zcR n1;go_upto_region 5 with fail;have m1:w1.cell? (aD nb 1)=some (vI x.a):=zcR N1.o;have HA:=bV hA;have HB:=bV hB;rcases HW.o with⟨hs,rfl,rfl⟩|⟨hs,rfl,n,hn⟩
 case' inl=>
  obtain rfl:so=44:=by have:=HSO.o;omega
  have hl2:s2.l.length+1<=5000000:=by simpa[Rf.RS.put]using hlen
 case' inr=>
  obtain rfl:so=97:=by have:=HSO.o;omega
  have HN:=bV hn;have hl2:s2.l.length+2<=5000000:=by have:=Ff hn;simp[Rf.RS.put]at this;omega
 all_goals
  go_wp21;go_call HA.o _ _ _ _ oM T1.o S1.o as e2 w2 ⟨rfl,hk2,lv2,ev2,sv2,hv2,hs2⟩;have S2:=bV hs2;have T2:=bV (T1.o.tk hk2);have N2:=hk2.cells N1.o dZ;have K2:=bV (K1.o.trans hk2);have m2:w2.cell? (aD nb 2)=some (vI x.b):=zcR N2;go_wp21;go_call HB.o _ _ _ _ oM T2.o S2.o as e3 w3 ⟨rfl,hk3,lv3,ev3,sv3,hv3,hs3⟩;have S3:=bV hs3;have K3:=bV (K2.o.trans hk3)
 rotate_left
 ·have AD:=bV (Mc S3.o ⟨42,a,b,none⟩ rfl 0 hl2);go_wp21;go_call AD.o as e4 w4 ⟨rfl,lv4,hf,hs4⟩;have S4:=bV hs4;have K4:=bV (K3.o.trans (Hx (SF.tk S3.o hf)));go_wp21;go_ret;exact⟨rfl,K4.o,_,_,_,oM,S4.o⟩
 ·have FR:=bV (Qb S3.o oM);go_wp21;go_call FR.o as e4 w4 ⟨rfl,lv4,hf,hs4⟩;have S4:=bV hs4;have K4:=bV (K3.o.trans (Hx (SF.tk S3.o hf)));have AD:=bV (Mc S4.o ⟨62,b,s2.l.length,none⟩ rfl 0 (by simpa using hl2));go_wp21;go_call AD.o as e5 w5 ⟨rfl,lv5,hf,hs5⟩;have K5:=bV (K4.o.trans (Hx (SF.tk S4.o hf)));have S5:Hid (ST w5 B bs bt ((s2.put ⟨118,0,0,none⟩).put ⟨62,b,s2.l.length,none⟩).l ((s2.put ⟨118,0,0,none⟩).put ⟨62,b,s2.l.length,none⟩).bad E lv5 ev3 sv3):=bV hs5;have hl5:(s2.l++[(⟨118,0,0,none⟩:RC)]).length=s2.l.length+1:=sM;have ON:=bV (Xz S5.o HN.o);go_wp21;go_call ON.o as e6 w6 ⟨rfl,hk6,hs6⟩;have S6:=bV hs6;have K6:=bV (K5.o.trans hk6);go_wp21;go_ret;exact⟨rfl,K6.o,_,_,_,oM,S6.o⟩
end
end
section
section
variable {B Br bs bt z:Nat}{s:ByteArray}{body:List Tw.Tok}{N:List Tw.Rf.RN}{tv nv:Value}{root er:Int}
theorem ztf{k:Nat}{x:RN}{E:List Bnd}{sa sb:Rf.RS}{r:Nat}{second:Bool}(hk:N[k]?=some x)(hbad:sa.bad=false)(hlen:sa.l.length+4<=5000000)(hways:x.sort=if second then 50 else 49)(hr:r=sa.l.length+3)
  (hsb:sb=((((sa.put ⟨118,0,0,none⟩).put ⟨118,0,0,none⟩).put ⟨42,sa.l.length,sa.l.length+1,none⟩).put ⟨62,sa.l.length+2,if second then sa.l.length+1 else sa.l.length,none⟩)):OC B Br bs bt s body N tv nv root er z k E sa r sb:=by
 intro w lv ev sv hz ht h;have hklt:=(zlE.1 hk).1;have⟨_,_,t2,_,_⟩:=ht.cells;obtain⟨g,cap,rfl,d0,d1,d2,d3,d4,d5,d6,d7,d8,_⟩:=ht.node hk;have⟨a0,_,a2,_,_⟩:=h.cells;have hkl:(k:Int)<(N.length:Int):=oM;rw[hbad]at a2;obtain⟨so,hso⟩:∃so:Int,(x.sort:Int)=so:=⟨_,rfl⟩;rw[hso]at d0;have HSO:=hso;go_in;go_upto_region 4 with fail;have g1:=zwA w (.cells #[vU so,vI x.a,vI x.b,vI x.c,vI x.first,vI x.last,vI x.name,vI x.binder,.bool false] 276) none;have n1:=Ac w (.cells #[vU so,vI x.a,vI x.b,vI x.c,vI x.first,vI x.last,vI x.name,vI x.binder,.bool false] 276);generalize w.alloc (.cells #[vU so,vI x.a,vI x.b,vI x.c,vI x.first,vI x.last,vI x.name,vI x.binder,.bool false] 276)=w1 at g1 n1 ⊢;generalize w.heap.size=nb at n1 ⊢;have S1:=h.grown g1;have K1:=TK.Ae B OfS g1;have m0:w1.cell? (aD nb 0)=some (vU so):=zcR n1;go_upto_region 5 with fail;have hso:so=if second then 50 else 49:=by
  rw[<-HSO,hways];cases second<;>rfl
 have⟨l,bad⟩:=sa;simp only[Rf.RS.put]at hlen S1 hsb hr;have FR:=Qb S1 oM;obtain⟨L,hL⟩:∃L,l.length=L:=⟨_,rfl⟩;have e1:(l++[(⟨118,0,0,none⟩:RC)]).length=L+1:=by simp[hL]
 have e2:(l++[(⟨118,0,0,none⟩:RC)]++[(⟨118,0,0,none⟩:RC)]).length=L+2:=by simp[hL]
 have e3:(l++[(⟨118,0,0,none⟩:RC)]++[(⟨118,0,0,none⟩:RC)]++[(⟨42,L,L+1,none⟩:RC)]).length=L+3:=by simp[hL]
 rw[hL]at FR hlen hr hsb;generalize l++[(⟨118,0,0,none⟩:RC)]=l1 at FR e1 e2 e3 hsb;obtain⟨l2,h2⟩:∃l2,l1++[(⟨118,0,0,none⟩:RC)]=l2:=⟨_,rfl⟩;rw[h2]at e2 e3 hsb;obtain⟨l3,h3⟩:∃l3,l2++[(⟨42,L,L+1,none⟩:RC)]=l3:=⟨_,rfl⟩;rw[h3]at e3 hsb;obtain⟨l4,h4⟩:∃l4,l3++[(⟨62,L+2,if second then L+1 else L,none⟩:RC)]=l4:=⟨_,rfl⟩;rw[h4]at hsb;have E2:=e2;have E3:=e3;cases second
 all_goals
  first
   |(obtain rfl:so=49:=hso)
   |(obtain rfl:so=50:=hso)
  go_wp21;go_call FR as e2 w2 ⟨rfl,lv2,hf,hs2⟩;have F2:=Qb hs2 (by rw[e1];omega);rw[e1,h2]at F2;have N2:=(Hx (SF.tk S1 hf)).cells n1 dZ;have K2:=K1.trans (Hx (SF.tk S1 hf));go_wp21;go_call F2 as e3 w3 ⟨rfl,lv3,hf,hs3⟩;have A3:=Mc hs3 ⟨42,L,L+1,none⟩ rfl 0 (by rw[E2];omega);rw[E2,h3]at A3;have N3:=(Hx (SF.tk hs2 hf)).cells N2 dZ;have K3:=K2.trans (Hx (SF.tk hs2 hf));go_wp21;go_call A3 as e4 w4 ⟨rfl,lv4,hf,hs4⟩;have N4:=(Hx (SF.tk hs3 hf)).cells N3 dZ;have K4:=K3.trans (Hx (SF.tk hs3 hf))
  first
   |have A4:=(Mc hs4 ⟨62,L+2,L,none⟩ rfl 0 (by rw[E3];omega))
    rw[E3,show l3++[(⟨62,L+2,L,none⟩:RC)]=l4 from h4]at A4
   |have A4:=(Mc hs4 ⟨62,L+2,L+1,none⟩ rfl 0 (by rw[E3];omega))
    rw[E3,show l3++[(⟨62,L+2,L+1,none⟩:RC)]=l4 from h4]at A4
  have m0:w4.cell? (aD nb 0)=some (vU _):=(mB _ _ _ _ _ _ N4);go_wp21;go_call A4 as e5 w5 ⟨rfl,lv5,hf,hs5⟩;have K5:=K4.trans (Hx (SF.tk hs4 hf));go_wp21;go_ret;exact⟨by rw[hr];rfl,K5,lv5,ev,sv,oM,by rw[hsb];exact hs5⟩
end
end
section
section
variable {B Br bs bt z z1 z2:Nat}{s:ByteArray}{body:List Tw.Tok}{N:List Tw.Rf.RN}{tv nv:Value}{root er:Int}
theorem zvb{k:Nat}{x:RN}{E:List Bnd}{sa s1 s2 s4 s5 sb:Rf.RS}{r a b n:Nat}(hk:N[k]?=some x)(hzz:z1+z2<=z)(hbad:sa.bad=false)(hlen:sb.l.length<=5000000)
  (hA:OC B Br bs bt s body N tv nv root er z1 x.a E sa a s1) (hB:OC B Br bs bt s body N tv nv root er z2 x.b E s1 b s2) (h4:Re n a s2.l.length (s2.put ⟨105,0,0,none⟩)=some s4) (h5:Re n b s2.l.length s4=some s5)
  (hways:((x.sort=60\/x.sort=61)/\r=s5.l.length/\sb=s5.put ⟨98,0,0,none⟩)\/((x.sort=43\/x.sort=45\/x.sort=42\/x.sort=47)/\r=s2.l.length/\sb=s5)) :
  OC B Br bs bt s body N tv nv root er z k E sa r sb:=by
 intro w lv ev sv hz ht h;have hklt:=(zlE.1 hk).1;have⟨_,_,t2,_,_⟩:=ht.cells;obtain⟨g,cap,rfl,d0,d1,d2,d3,d4,d5,d6,d7,d8,_⟩:=ht.node hk;have⟨a0,_,a2,_,_⟩:=h.cells;have hkl:(k:Int)<(N.length:Int):=oM;rw[hbad]at a2;obtain⟨so,hso⟩:∃so:Int,(x.sort:Int)=so:=⟨_,rfl⟩;rw[hso]at d0;have HSO:=bV hso;have HW:=bV hways;have H:=bV h;have HT:=bV ht;clear h ht hways hso hk;go_in;go_upto_region 4 with fail;have g1:=zwA w (.cells #[vU so,vI x.a,vI x.b,vI x.c,vI x.first,vI x.last,vI x.name,vI x.binder,.bool false] 276) none;have n1:=Ac w (.cells #[vU so,vI x.a,vI x.b,vI x.c,vI x.first,vI x.last,vI x.name,vI x.binder,.bool false] 276);generalize w.alloc (.cells #[vU so,vI x.a,vI x.b,vI x.c,vI x.first,vI x.last,vI x.name,vI x.binder,.bool false] 276)=w1 at g1 n1 ⊢;generalize w.heap.size=nb at n1 ⊢;have S1:=bV (H.o.grown g1);have T1:=bV (HT.o.grown g1);have K1:=bV (TK.Ae B OfS g1);have N1:=bV n1;have m0:w1.cell? (aD nb 0)=some (vU so):=zcR n1;clear g1 n1 a0 a2 t2 d0 d1 d2 d3 d4 d5 d6 d7 d8 H HT;go_upto_region 5 with fail;have m1:w1.cell? (aD nb 1)=some (vI x.a):=zcR N1.o;have HA:=bV hA;have HB:=bV hB;have H4:=bV h4;have H5:=bV h5;have l4:=Ff h4;have l5:=Ff h5;simp[Rf.RS.put]at l4;have hno:((so==120)=false/\(so==105)=false/\(so==116)=false/\(so==102)=false)/\((so==49)=false/\(so==50)=false/\(so==103)=false/\(so==44)=false)/\((so==97)=false/\(so==70)=false/\(so==73)=false/\(so==108)=false/\(so==114)=false):=by
  have:=HSO.o;rcases HW.o with⟨h,_⟩|⟨h,_⟩<;>(simp;omega)
 have⟨⟨n1,n2,n3,n4⟩,⟨n5,n6,n7,n8⟩,⟨n9,n10,n11,n12,n13⟩⟩:=hno;have hl2:s2.l.length+1<=5000000:=by
  rcases HW.o with⟨_,_,rfl⟩|⟨_,_,rfl⟩
  ·simp[Rf.RS.put]at hlen;omega
  ·omega
 have L5:=bV l5;clear hA hB h4 h5 l4 l5;go_wp21;go_call HA.o _ _ _ _ oM T1.o S1.o as e2 w2 ⟨rfl,hk2,lv2,ev2,sv2,hv2,hs2⟩;have S2:=bV hs2;have T2:=bV (T1.o.tk hk2);have N2:=hk2.cells N1.o dZ;have K2:=bV (K1.o.trans hk2);have m2:w2.cell? (aD nb 2)=some (vI x.b):=zcR N2;clear hk2 hs2 m0 m1 S1 T1 K1 N1 HA;go_wp21;go_call HB.o _ _ _ _ oM T2.o S2.o as e3 w3 ⟨rfl,hk3,lv3,ev3,sv3,hv3,hs3⟩;have N3:=hk3.cells N2 dZ;have K3:=K2.o.trans hk3;have AD:=Mc hs3 ⟨105,0,0,none⟩ rfl 0 hl2;clear hk3 m2 S2 T2 K2 HB;go_wp21;go_call AD as e4 w4 ⟨rfl,lv4,hf,hs4⟩;have N4:=(Hx (SF.tk hs3 hf)).cells N3 dZ;have K4:=K3.trans (Hx (SF.tk hs3 hf));have ON:=Xz (sa:=s2.put ⟨105,0,0,none⟩) hs4 H4.o;clear hf hs4 AD hs3 K3 N3;go_wp21;go_call ON as e5 w5 ⟨rfl,hk5,hs5⟩;have N5:=hk5.cells N4 dZ;have K5:=K4.trans hk5;have OM:=Xz hs5 H5.o;clear hk5 hs5 ON K4 N4;go_wp21;go_call OM as e6 w6 ⟨rfl,hk6,hs6⟩;have N6:=hk6.cells N5 dZ;have m6:w6.cell? (aD nb 0)=some (vU so):=zcR N6;have K6:=K5.trans hk6;clear hk6 OM K5 N5 N6 n1 n2 n3 n4 n5 n6 n7 n8 n9 n10 n11 n12 n13;rcases HW.o with⟨hs,rfl,rfl⟩|⟨hs,rfl,rfl⟩
 ·have hbw:(so==60)=true\/((so==60)=false/\(so==61)=true):=by
   have:=HSO.o;simp;omega
  have A7:=Mc hs6 ⟨98,0,0,none⟩ rfl 0 (by simpa[Rf.RS.put]using hlen);clear hs HW;rcases hbw with hb1|⟨hb1,hb2⟩
  all_goals
   go_wp21;go_call A7 as e7 w7 ⟨rfl,lv7,hf,hs7⟩;have K7:=K6.trans (Hx (SF.tk hs6 hf));clear hf A7;go_wp21;go_ret;exact⟨rfl,K7,_,_,_,oM,hs7⟩
 ·have hb1:(so==60)=false:=by have:=HSO.o;simp;omega
  have hb2:(so==61)=false:=by have:=HSO.o;simp;omega
  clear hs HW;go_wp21;go_ret;exact⟨rfl,K6,_,_,_,oM,hs6⟩
end
end
section
section
variable {B Br bs bt z z1 z2 z3:Nat}{s:ByteArray}{body:List Tw.Tok}{N:List Tw.Rf.RN}{tv nv:Value}{root er:Int}
theorem ztg{k:Nat}{x:RN}{E:List Bnd}{sa s1 s3 s4 s5 sb:Rf.RS}{c a b n:Nat}(hk:N[k]?=some x)(hzz:z1+z2+z3<=z)(hbad:sa.bad=false)(hlen:s1.l.length+1<=5000000)
  (hA:OC B Br bs bt s body N tv nv root er z1 x.a E sa c s1) (h3:Re n c s1.l.length (s1.put ⟨98,0,0,none⟩)=some s3) (hB:OC B Br bs bt s body N tv nv root er z2 x.b E s3 a s4) (hC:OC B Br bs bt s body N tv nv root er z3 x.c E s4 b s5) (h5:Re n a b s5=some sb)
  (hways:x.sort=73):OC B Br bs bt s body N tv nv root er z k E sa a sb:=by
 intro w lv ev sv hz ht h;have hklt:=(zlE.1 hk).1;have⟨_,_,t2,_,_⟩:=ht.cells;obtain⟨g,cap,rfl,d0,d1,d2,d3,d4,d5,d6,d7,d8,_⟩:=ht.node hk;have⟨a0,_,a2,_,_⟩:=h.cells;have hkl:(k:Int)<(N.length:Int):=oM;rw[hbad]at a2;obtain⟨so,hso⟩:∃so:Int,(x.sort:Int)=so:=⟨_,rfl⟩;rw[hso]at d0;go_in;go_upto_region 4 with fail;have g1:=zwA w (.cells #[vU so,vI x.a,vI x.b,vI x.c,vI x.first,vI x.last,vI x.name,vI x.binder,.bool false] 276) none;have n1:=Ac w (.cells #[vU so,vI x.a,vI x.b,vI x.c,vI x.first,vI x.last,vI x.name,vI x.binder,.bool false] 276);generalize w.alloc (.cells #[vU so,vI x.a,vI x.b,vI x.c,vI x.first,vI x.last,vI x.name,vI x.binder,.bool false] 276)=w1 at g1 n1 ⊢;generalize w.heap.size=nb at n1 ⊢;have S1:=h.grown g1;have T1:=ht.grown g1;have K1:=TK.Ae B OfS g1;have m0:w1.cell? (aD nb 0)=some (vU so):=zcR n1;go_upto_region 5 with fail;obtain rfl:so=73:=by have:=hso;have:=hways;omega
 have m1:w1.cell? (aD nb 1)=some (vI x.a):=zcR n1;go_wp21;go_call hA _ _ _ _ oM T1 S1 as e2 w2 ⟨rfl,hk2,lv2,ev2,sv2,hv2,hs2⟩;have T2:=T1.tk hk2;have N2:=hk2.cells n1 dZ;have K2:=K1.trans hk2;have AD:=Mc hs2 ⟨98,0,0,none⟩ rfl 0 hlen;go_wp21;go_call AD as e3 w3 ⟨rfl,lv3,hf,hs3⟩;have k3:=Hx (SF.tk hs2 hf);have N3:=k3.cells N2 dZ;have T3:=T2.tk k3;have K3:=K2.trans k3;have ON:=Xz (sa:=s1.put ⟨98,0,0,none⟩) hs3 h3;go_wp21;go_call ON as e4 w4 ⟨rfl,hk4,hs4⟩;have N4:=hk4.cells N3 dZ;have T4:=T3.tk hk4;have K4:=K3.trans hk4;have m2:w4.cell? (aD nb 2)=some (vI x.b):=zcR N4;go_wp21;go_call hB _ _ _ _ oM T4 hs4 as e5 w5 ⟨rfl,hk5,lv5,ev5,sv5,hv5,hs5⟩;have T5:=T4.tk hk5;have N5:=hk5.cells N4 dZ;have m3:w5.cell? (aD nb 3)=some (vI x.c):=zcR N5;have K5:=K4.trans hk5;go_wp21;go_call hC _ _ _ _ oM T5 hs5 as e6 w6 ⟨rfl,hk6,lv6,ev6,sv6,hv6,hs6⟩;have K6:=K5.trans hk6;have OM:=Xz hs6 h5;go_wp21;go_call OM as e7 w7 ⟨rfl,hk7,hs7⟩;have K7:=K6.trans hk7;go_wp21;go_ret;exact⟨rfl,K7,_,_,_,oM,hs7⟩
end
end
section
section
variable {w w5:World}{B bs bt:Nat}{l:List Tw.Rf.RC}{bad:Bool}{env:List Bnd}{lv ev sv:Value}
theorem ST.push(h:ST w B bs bt l bad env lv ev sv){e:List Nat}{a g cap:Nat}(p:w.ownsRow B 3 1 sv e.length (e.map λf:Nat=>vI f))(o:w5.ownsRow B 3 1 (sL g (e.length+1) cap) (e.length+1) (e.map (λf:Nat=>vI f)++[vI a]))(j:w.grownBy w5 sv.ownBlock):
  w5.cell? (aD bs 4)=some sv/\w5.frozen? (aD bs 4)=false/\ST (w5.setCell (aD bs 4) (sL g (e.length+1) cap)) B bs bt l bad env lv ev (sL g (e.length+1) cap)/\TK B OfS w (w5.setCell (aD bs 4) (sL g (e.length+1) cap)):=by
 have k:∀(g:Nat) {m:TypeId} (c:Array Value),m≠3->w.heap[g]?=some (Obj.cells c m (0,0))->w5.heap[g]?=some (Obj.cells c m (0,0)):=λg _ c v d=>Eu p j d v;have n:=k _ _ dZ h.store;have Aq:∀ {q:Nat} {c:Array Value} {m:TypeId},m≠155->w5.heap[q]?=some (.cells c m (0,0))->(w5.setCell (aD bs 4) (sL g (e.length+1) cap)).heap[q]?=some (.cells c m (0,0)):=λ{q c m} v d=>(aA w5 (aD bs 4) q _ (by rintro rfl;rw[n]at d;cases d;exact v rfl)).trans d;refine⟨zcR n,eB _ _ _ _ _ n,⟨Bu n _,Ai h.types λg c d=>Aq dZ (k g c dZ d),Ai h.Ly λg c d=>Aq dZ (k g c dZ d),⟨e++[a],?_⟩,h.low,h.few⟩,?_⟩
 ·have C:=Ai o λg c d=>Aq dZ d;rw[eA,vB];exact C
 ·refine TK.trans ?_ (Hx (Wk n h.low _));exact{
   low:=λ{k} I D=>j.block k D (λi=>by have:=(p.lt k i.symm).1;omega)
   os:=j.os
   tape:=j.tape
   output:=j.output
   size:=j.size
   cells:=λd A=>Eu p j d (λi=>by rw[i]at A;revert A;decide)
   other:=λ{k J} o F=>(j.block k (zgE.1 o).1 (λi=>by
    rcases p.2 with⟨t,_⟩|⟨H,cap,G,t,_,y,_⟩
    ·rw[t]at i;simp[Value.ownBlock]at i
    ·rw[t]at i;simp[Value.ownBlock]at i;subst i;rw[o]at y;cases y;exact F _ _ _ rfl)).trans o}
theorem ST.zrx(h:ST w B bs bt l bad env lv ev sv):∃(a:List Nat) (p:Option Addr) (c:Nat),sv=.slice p a.length c/\w.ownsRow B 3 1 sv a.length (a.map λf:Nat=>vI f):=by
 have⟨a,e⟩:=h.seen;rcases e.2 with⟨d,g⟩|⟨j,i,_,d,_⟩
 ·exact⟨a,_,_,by rw[d,g],e⟩
 ·exact⟨a,_,_,d,e⟩
end
section
variable {B Br bs bt z z1 z2:Nat}{s:ByteArray}{body:List Tw.Tok}{N:List Tw.Rf.RN}{tv nv:Value}{root er:Int}
variable{k b r:Nat}{x:Tw.Rf.RN}{E:List Bnd}{sa s2 sb:Tw.Rf.RS}
theorem zvs(g:N[k]?=some x)(F:sa.bad=false)(G:sa.l.length+1<=5000000)(H:s2.l.length+1<=5000000)
  (D:WiC B Br bs bt s body N tv nv root er z ((k:Nat),sa.l.length,false) x.a E (sa.put ⟨118,0,0,none⟩) b s2) (I:x.sort=70):OC B Br bs bt s body N tv nv root er z k E sa s2.l.length (s2.put ⟨62,sa.l.length,b,none⟩):=by
 intro w lv ev sv J d h;have Y:=(zlE.1 g).1;have⟨_,_,t2,_,_⟩:=d.cells;obtain⟨W,M,rfl,C,O,P,Q,R,S,T,U,V,_⟩:=d.node g;have⟨L,_,A,_,_⟩:=h.cells;have X:(k:Int)<(N.length:Int):=oM;rw[F]at A;obtain⟨so,i⟩:∃so:Int,(x.sort:Int)=so:=⟨_,rfl⟩;rw[i]at C;go_in;go_upto_region 4 with fail;have a:=zwA w (.cells #[vU so,vI x.a,vI x.b,vI x.c,vI x.first,vI x.last,vI x.name,vI x.binder,.bool false] 276) none;have c:=Ac w (.cells #[vU so,vI x.a,vI x.b,vI x.c,vI x.first,vI x.last,vI x.name,vI x.binder,.bool false] 276);generalize w.alloc (.cells #[vU so,vI x.a,vI x.b,vI x.c,vI x.first,vI x.last,vI x.name,vI x.binder,.bool false] 276)=w1 at a c ⊢;generalize w.heap.size=nb at c ⊢;have f:=h.grown a;have v:=d.grown a;have n:=TK.Ae B OfS a;have Z:w1.cell? (aD nb 0)=some (vU so):=zcR c;go_upto_region 5 with fail;obtain rfl:so=70:=by have:=i;have:=I;omega
 have m:=Qb f G;go_wp21;go_call m as e2 w2 ⟨rfl,lv2,hf,hs2⟩;have e:=Hx (SF.tk f hf);have y:=v.tk e;have t:=e.cells c dZ;have o:=n.trans e;have m1:w2.cell? (aD nb 1)=some (vI x.a):=zcR t;go_wp21;go_call D _ _ _ _ J y hs2 as e3 w3 ⟨rfl,hk3,lv3,ev3,sv3,hv3,hs3⟩;have p:=o.trans hk3;have j:=Mc hs3 ⟨62,sa.l.length,b,none⟩ rfl 0 H;go_wp21;go_call j as e4 w4 ⟨rfl,lv4,hf,hs4⟩;have q:=p.trans (Hx (SF.tk hs3 hf));go_wp21;go_ret;exact⟨rfl,q,_,_,_,oM,hs4⟩
theorem zvc{s1:Rf.RS}{a:Nat}(hzz:z1+1+z2<=z)(hk:N[k]?=some x)(hbad:sa.bad=false)
  (hA:OC B Br bs bt s body N tv nv root er z1 x.a E sa a s1) (hB:WiC B Br bs bt s body N tv nv root er z2 ((k:Nat),a,true) x.b E s1 r sb) (hways:x.sort=108):OC B Br bs bt s body N tv nv root er z k E sa r sb:=by
 intro w lv ev sv hz ht h;have hklt:=(zlE.1 hk).1;have⟨_,_,t2,_,_⟩:=ht.cells;obtain⟨g,cap,rfl,d0,d1,d2,d3,d4,d5,d6,d7,d8,_⟩:=ht.node hk;have⟨a0,_,a2,_,_⟩:=h.cells;have hkl:(k:Int)<(N.length:Int):=oM;rw[hbad]at a2;obtain⟨so,hso⟩:∃so:Int,(x.sort:Int)=so:=⟨_,rfl⟩;rw[hso]at d0;go_in;go_upto_region 4 with fail;have g1:=zwA w (.cells #[vU so,vI x.a,vI x.b,vI x.c,vI x.first,vI x.last,vI x.name,vI x.binder,.bool false] 276) none;have n1:=Ac w (.cells #[vU so,vI x.a,vI x.b,vI x.c,vI x.first,vI x.last,vI x.name,vI x.binder,.bool false] 276);generalize w.alloc (.cells #[vU so,vI x.a,vI x.b,vI x.c,vI x.first,vI x.last,vI x.name,vI x.binder,.bool false] 276)=w1 at g1 n1 ⊢;generalize w.heap.size=nb at n1 ⊢;have S1:=h.grown g1;have T1:=ht.grown g1;have K1:=TK.Ae B OfS g1;have m0:w1.cell? (aD nb 0)=some (vU so):=zcR n1;go_upto_region 5 with fail;obtain rfl:so=108:=by have:=hso;have:=hways;omega
 have hii:(prog.info? 3).map (λi=>(i.zero,i.size,i.bytes))=some (some (vI 0),1,8):=kR;have⟨i0,hi,hz0,hz1,hz2⟩:=info_parts hii;have m1:w1.cell? (aD nb 1)=some (vI x.a):=zcR n1;go_wp21;go_call hA _ _ _ _ oM T1 S1 as e2 w2 ⟨rfl,hk2,lv2,ev2,sv2,hv2,hs2⟩;have T2:=T1.tk hk2;have N2:=hk2.cells n1 dZ;have K2:=K1.trans hk2;obtain⟨sn,p,c,rfl,hsn⟩:=hs2.zrx;have ga:=zwA w2 (.cells #[vI a] 3) none;have SA:=hs2.grown ga;have OA:=Bs hsn ga;have KA:=TK.Ae B OfS ga;have HB:B<=(w2.alloc (.cells #[vI a] 3)).heap.size:=(by have h1:=SA.low;have h2:=(zgE.1 SA.store).1;omega);have hv2':sn.length<=Oe sv+z1:=hv2;have hmx:sn.length+1<=maxLen:=by unfold maxLen;omega
 have⟨_,_,_,_,cs⟩:=hs2.cells;go_upto_region 48 with(at_builtin;refine wpList_append_lies _ rfl _ _ 33 rfl B 3 i0 (vI 0) 1 8 underlying33 hi hz0 hz1 hz2 rfl dZ (.slice p sn.length c) sn.length (sn.map λf:Nat=>vI f) rfl OA (aD w2.heap.size 0) 1 1 [vI a] rfl rfl (J7 _ _ _) (by intro u hu;simp at hu;subst hu;rfl) dZ hmx oM HB _ rfl ?_;intro g5 cap5 w5 hown5 hgrow5 _ _;obtain⟨cz,fz,X5,K5⟩:=SA.push OA hown5 hgrow5;have X5:=X5;have K5:=(KA.trans K5);clear hown5 hgrow5);have T5:=T2.tk K5;have N5:=K5.cells N2 dZ;have K6:=K2.trans K5;generalize w5.setCell (aD bs 4) (sL g5 (sn.length+1) cap5)=w6 at T5 N5 K6 X5 ⊢;have m2:w6.cell? (aD nb 2)=some (vI x.b):=zcR N5;go_wp21;go_call hB _ _ _ _ (by simp[Oe];omega) T5 X5 as e7 w7 ⟨rfl,hk7,lv7,ev7,sv7,hv7,hs7⟩;have K7:=K6.trans hk7;have hv7:Oe sv7<=sn.length+1+z2:=hv7;go_wp21;go_ret;exact⟨rfl,K7,_,_,_,oM,hs7⟩
theorem zvd{s3:Rf.RS}{n:Nat}(hzz:z1+1+z2<=z)(hk:N[k]?=some x)(hbad:sa.bad=false)(hlen:sa.l.length+1<=5000000)
  (hA:WiC B Br bs bt s body N tv nv root er z1 ((k:Nat),sa.l.length,false) x.a E (sa.put ⟨118,0,0,none⟩) b s2) (h3:Re n sa.l.length b s2=some s3) (hB:WiC B Br bs bt s body N tv nv root er z2 ((k:Nat),sa.l.length,true) x.b E s3 r sb) (hways:x.sort=114):OC B Br bs bt s body N tv nv root er z k E sa r sb:=by
 intro w lv ev sv hz ht h;have hklt:=(zlE.1 hk).1;have⟨_,_,t2,_,_⟩:=ht.cells;obtain⟨g,cap,rfl,d0,d1,d2,d3,d4,d5,d6,d7,d8,_⟩:=ht.node hk;have⟨a0,_,a2,_,_⟩:=h.cells;have hkl:(k:Int)<(N.length:Int):=oM;rw[hbad]at a2;obtain⟨so,hso⟩:∃so:Int,(x.sort:Int)=so:=⟨_,rfl⟩;rw[hso]at d0;go_in;go_upto_region 4 with fail;have g1:=zwA w (.cells #[vU so,vI x.a,vI x.b,vI x.c,vI x.first,vI x.last,vI x.name,vI x.binder,.bool false] 276) none;have n1:=Ac w (.cells #[vU so,vI x.a,vI x.b,vI x.c,vI x.first,vI x.last,vI x.name,vI x.binder,.bool false] 276);generalize w.alloc (.cells #[vU so,vI x.a,vI x.b,vI x.c,vI x.first,vI x.last,vI x.name,vI x.binder,.bool false] 276)=w1 at g1 n1 ⊢;generalize w.heap.size=nb at n1 ⊢;have S1:=h.grown g1;have T1:=ht.grown g1;have K1:=TK.Ae B OfS g1;have m0:w1.cell? (aD nb 0)=some (vU so):=zcR n1;go_upto_region 5 with fail;obtain rfl:so=114:=by have:=hso;have:=hways;omega
 have hii:(prog.info? 3).map (λi=>(i.zero,i.size,i.bytes))=some (some (vI 0),1,8):=kR;have⟨i0,hi,hz0,hz1,hz2⟩:=info_parts hii;have FR:=Qb S1 hlen;go_wp21;go_call FR as e2 w2 ⟨rfl,lv2,hf,hs2⟩;have k2:=Hx (SF.tk S1 hf);have T2:=T1.tk k2;have N2:=k2.cells n1 dZ;have K2:=K1.trans k2;have m1:w2.cell? (aD nb 1)=some (vI x.a):=zcR N2;go_wp21;go_call hA _ _ _ _ oM T2 hs2 as e3 w3 ⟨rfl,hk3,lv3,ev3,sv3,hv3,hs3⟩;have T3:=T2.tk hk3;have N3:=hk3.cells N2 dZ;have K3:=K2.trans hk3;have ON:=Xz hs3 h3;go_wp21;go_call ON as e4 w4 ⟨rfl,hk4,hs4⟩;have T4:=T3.tk hk4;have N4:=hk4.cells N3 dZ;have K4:=K3.trans hk4;obtain⟨sn,p,c,rfl,hsn⟩:=hs4.zrx;have ga:=zwA w4 (.cells #[vI sa.l.length] 3) none;have SA:=hs4.grown ga;have OA:=Bs hsn ga;have KA:=TK.Ae B OfS ga;have HB:B<=(w4.alloc (.cells #[vI sa.l.length] 3)).heap.size:=(by have h1:=SA.low;have h2:=(zgE.1 SA.store).1;omega);have hv3':sn.length<=Oe sv+z1:=hv3;have hmx:sn.length+1<=maxLen:=by unfold maxLen;omega
 have⟨_,_,_,_,cs⟩:=hs4.cells;go_upto_region 54 with(at_builtin;refine wpList_append_lies _ rfl _ _ 33 rfl B 3 i0 (vI 0) 1 8 underlying33 hi hz0 hz1 hz2 rfl dZ (.slice p sn.length c) sn.length (sn.map λf:Nat=>vI f) rfl OA (aD w4.heap.size 0) 1 1 [vI sa.l.length] rfl rfl (J7 _ _ _) (by intro u hu;simp at hu;subst hu;rfl) dZ hmx oM HB _ rfl ?_;intro g5 cap5 w5 hown5 hgrow5 _ _;obtain⟨cz,fz,X5,K5⟩:=SA.push OA hown5 hgrow5;have X5:=X5;have K5:=(KA.trans K5);clear hown5 hgrow5);have T5:=T4.tk K5;have N5:=K5.cells N4 dZ;have K6:=K4.trans K5;generalize w5.setCell (aD bs 4) (sL g5 (sn.length+1) cap5)=w6 at T5 N5 K6 X5 ⊢;have m2:w6.cell? (aD nb 2)=some (vI x.b):=zcR N5;go_wp21;go_call hB _ _ _ _ (by simp[Oe];omega) T5 X5 as e7 w7 ⟨rfl,hk7,lv7,ev7,sv7,hv7,hs7⟩;have K7:=K6.trans hk7;have hv7:Oe sv7<=sn.length+1+z2:=hv7;go_wp21;go_ret;exact⟨rfl,K7,_,_,_,oM,hs7⟩
end
end
end
section
open Tw Tw.Rf
open Go.RowKit
section
namespace Tw
def Qe:T->Prop
 |.name ..|.int ..|.Ak ..|.side .. =>True
 |.bracket _ _ i=>Qe i
 |.pair _ _ l r|.call _ _ l r=>Qe l/\Qe r
 |.binary _ _ sg l r=>(sg=19\/sg=20\/sg=21\/sg=22\/sg=23\/sg=15)/\Qe l/\Qe r
 |.cond _ _ c t f=>Qe c/\Qe t/\Qe f
 |.fn _ _ _ _ b=>Qe b
 |.Am _ _ _ _ _ d b=>Qe d/\Qe b
def GS(k:GK)(t:T):Prop:=match k with
 |.chF _ g a=>(∀x∈g,x=19\/x=20\/x=21\/x=22)->Qe a->Qe t
 |.caF a=>Qe a->Qe t
 |_=>Qe t
theorem zqt{l:List UInt8}{k:GK}{e:List Tok}{t:T}(h:G l k e t):GS k t:=by
 induction h with
 |Am hl hrc hn he hi hp D B iD iB=>exact⟨iD,iB⟩
 |fn hl hn b hp B iB=>exact iB
 |cond hl h1 h2 C X Y iC iX iY=>exact⟨iC,iX,iY⟩
 |zkp h ih=>exact ih
 |zkr h ih=>exact ih
 |zhs X hs Y iX iY=>exact⟨oM,iX,iY⟩
 |sum X C iX iC=>exact iC sM iX
 |term X C iX iC=>exact iC sM iX
 |chN=>exact λ_ h=>h
 |@chC p g a sg w1 w2 y t hs Y C iY iC=>
  intro c b;have d:Qe y:=by cases p<;>exact iY
  exact iC c ⟨by have:=c _ hs;omega,b,d⟩
 |call X C iX iC=>exact iC iX
 |caN=>exact λh=>h
 |caC Y C iY iC=>exact λb=>iC ⟨b,iY⟩
 |@leaf tk x hb h16 h=>
  show Qe x;unfold Lv at h
  repeat' split at h
  all_goals first
   |(cases h;done)
   |(cases h;trivial)
   |(obtain⟨_,_,h⟩:=zbE.1 h;cases h;trivial)
 |bracket b hc X iX=>exact iX
 |pair b hm hc X Y iX iY=>exact⟨iX,iY⟩
end Tw
section
variable {B Br bs bt:Nat}{s:ByteArray}{body:List Tw.Tok}{N:List Tw.Rf.RN}{tv nv:Value}{root er:Int}{f g:Nat -> Nat}
theorem OC.more{z b:Nat}{k k':Int}{E:List Bnd}{sa a:Rf.RS}{r:Nat}(h:OC B Br bs bt s body N tv nv root er z k E sa r a)(A:z<=b)(n:k'=k):OC B Br bs bt s body N tv nv root er b k' E sa r a:=by
 subst n;intro w o i q y l m;refine(h w o i q oM l m).mono ?_;rintro x C ⟨c,d,p,j,t,v,e⟩;exact⟨c,d,p,j,t,oM,e⟩
def zwl(B Br bs bt:Nat)(s:ByteArray)(body:List Tw.Tok)(N:List RN)(tv nv:Value)(root er:Int)(f g:Nat->Nat)(m:Nat)(t:Tw.T):Prop:=
 ∀(n:Nat) (b:Sc) (e:REn) (E:List Bnd) (c:Rf.RS) (r:Nat) (a:Rf.RS),t.freeS (b.map (·.1))=none->Qe t->Run N n (fill f g t n b)->zcl b e E->(∀d∈E,n+Rf.T.sz t<=d.1)->E.length+Rf.T.sz t<=100000->rOf m t e c=some (r,a)->a.l.length<=5000000->OC B Br bs bt s body N tv nv root er (Rf.T.sz t) ((n+Rf.T.sz t-1:Nat):Int) E c r a
theorem Iq(m:Nat):∀t:Tw.T,zwl B Br bs bt s body N tv nv root er f g m t
 |.name fr t0 x=>by
  intro n sc e E sa r sb hF hS hR hE hlo hfe hr hl;rw[rOf]at hr;cases hb:sa.bad with
  |true=>rw[mA hb]at hr;cases hr;exact Ny hb
  |false=>
   rw[jA (by simp[hb])]at hr;have hk:=hR 0 _ rfl;rw[Nat.add_zero]at hk;have hc:(sc.map (·.1)).contains x=true:=by
    cases h:(sc.map (·.1)).contains x
    ·simp only[Tw.T.freeS]at hF;rw[h]at hF;cases hF
    ·rfl
   obtain⟨pre,post,j,r0,an,h1,h2⟩:=hE.look hc;have hsp:=h2.split;subst hsp;rcases h2.look with⟨rfl,h3⟩|⟨rfl,t,o,h3,h4⟩
   ·simp only[useS,h3]at hr;cases hr;exact(zli (q:=(r,sa.l)) hk hb (by simp[Rf.T.sz]at hfe ⊢;omega) h2.first rfl h1 (.inl ⟨rfl,rfl⟩)).more (znL _) (by simp[Rf.T.sz])
   ·simp only[useS,h3]at hr;obtain⟨q,hq,hr⟩:=zbE.1 hr;cases hr;rw[h4]at hq;exact(zli (q:=q) hk hb (by simp[Rf.T.sz]at hfe ⊢;omega) h2.first rfl h1 (.inr ⟨rfl,⟨m,hq⟩,hl⟩)).more (znL _) (by simp[Rf.T.sz])
 |.int fr t0 v=>by
  intro n sc e E sa r sb hF hS hR hE hlo hfe hr hl;rw[rOf]at hr;cases hb:sa.bad with
  |true=>rw[mA hb]at hr;cases hr;exact Ny hb
  |false=>
   rw[jA (by simp[hb])]at hr;cases hr;have hk:=hR 0 _ rfl;rw[Nat.add_zero]at hk;exact(zj9 hk hb hl (.inl ⟨rfl,rfl,rfl⟩)).more (znL _) (by simp[Rf.T.sz])
 |.Ak fr t0 v=>by
  intro n sc e E sa r sb hF hS hR hE hlo hfe hr hl;rw[rOf]at hr;cases hb:sa.bad with
  |true=>rw[mA hb]at hr;cases hr;exact Ny hb
  |false=>
   rw[jA (by simp[hb])]at hr;cases hr;have hk:=hR 0 _ rfl;rw[Nat.add_zero]at hk;exact(zj9 hk hb hl (.inr (.inl ⟨by cases v<;>simp,rfl,rfl⟩))).more (znL _) (by simp[Rf.T.sz])
 |.side fr t0 v=>by
  intro n sc e E sa r sb hF hS hR hE hlo hfe hr hl;rw[rOf]at hr;cases hb:sa.bad with
  |true=>rw[mA hb]at hr;cases hr;exact Ny hb
  |false=>
   rw[jA (by simp[hb])]at hr;cases hr;have hk:=hR 0 _ rfl;rw[Nat.add_zero]at hk;exact(ztf (second:=v) hk hb (by simp[Rf.RS.put]at hl;omega) rfl rfl rfl).more (znL _) (by simp[Rf.T.sz])
 |.bracket fr t0 i=>by
  intro n sc e E sa r sb hF hS hR hE hlo hfe hr hl;rw[rOf]at hr;cases hb:sa.bad with
  |true=>rw[mA hb]at hr;cases hr;exact Ny hb
  |false=>
   rw[jA (by simp[hb])]at hr;rw[fill]at hR;simp only[Rf.T.sz]at hlo hfe ⊢;have hk:=hR.last (m:=n+Rf.T.sz i) (by rw[Af]);have ih:=Iq m i n sc e E sa r sb hF hS hR.left hE (λb hb=>by have:=hlo b hb;omega) oM hr hl;exact(zj9 hk hb hl (.inr (.inr ⟨rfl,ih⟩))).more oM oM
 |.pair fr t0 a b=>by
  intro n sc e E sa r sb hF hS hR hE hlo hfe hr hl;rw[rOf]at hr;cases hb:sa.bad with
  |true=>rw[mA hb]at hr;cases hr;exact Ny hb
  |false=>
   rw[jA (by simp[hb])]at hr;rw[fill]at hR;simp only[Rf.T.sz]at hlo hfe ⊢;simp only[Tw.T.freeS]at hF;obtain⟨f1,f2⟩:=I5 hF;obtain⟨x,hx,hr⟩:=zbE.1 hr;obtain⟨y,hy,hr⟩:=zbE.1 hr;cases hr;have l2:=Di m b hy;have hl':=hl;simp[Rf.RS.put]at hl';have hk:=hR.last (m:=n+Rf.T.sz a+Rf.T.sz b) (by rw[eA,Af,Af];omega);have iha:=Iq m a n sc e E sa x.1 x.2 f1 hS.1 hR.left.left hE (λb hb=>by have:=hlo b hb;omega) oM hx oM;have ihb:=Iq m b (n+Rf.T.sz a) sc e E x.2 y.1 y.2 f2 hS.2 (hR.left.right (by rw[Af])) hE (λb hb=>by have:=hlo b hb;omega) oM hy oM;exact(zqs (z:=Rf.T.sz a+Rf.T.sz b) hk (znL _) hb hl iha ihb (.inl ⟨rfl,rfl,rfl⟩)).more oM oM
 |.call fr t0 a b=>by
  intro n sc e E sa r sb hF hS hR hE hlo hfe hr hl;rw[rOf]at hr;cases hb:sa.bad with
  |true=>rw[mA hb]at hr;cases hr;exact Ny hb
  |false=>
   rw[jA (by simp[hb])]at hr;rw[fill]at hR;simp only[Rf.T.sz]at hlo hfe ⊢;simp only[Tw.T.freeS]at hF;obtain⟨f1,f2⟩:=I5 hF;obtain⟨x,hx,hr⟩:=zbE.1 hr;obtain⟨y,hy,hr⟩:=zbE.1 hr;obtain⟨u,hu,hr⟩:=zbE.1 hr;cases hr;have l2:=Di m b hy;have l3:=Ff hu;simp[Rf.RS.put]at l3;have hk:=hR.last (m:=n+Rf.T.sz a+Rf.T.sz b) (by rw[eA,Af,Af];omega);have iha:=Iq m a n sc e E sa x.1 x.2 f1 hS.1 hR.left.left hE (λb hb=>by have:=hlo b hb;omega) oM hx oM;have ihb:=Iq m b (n+Rf.T.sz a) sc e E x.2 y.1 y.2 f2 hS.2 (hR.left.right (by rw[Af])) hE (λb hb=>by have:=hlo b hb;omega) oM hy oM;exact(zqs (z:=Rf.T.sz a+Rf.T.sz b) hk (znL _) hb hl iha ihb (.inr ⟨rfl,rfl,m,hu⟩)).more oM oM
 |.binary fr t0 sg a b=>by
  intro n sc e E sa r sb hF hS hR hE hlo hfe hr hl;rw[rOf]at hr;cases hb:sa.bad with
  |true=>rw[mA hb]at hr;cases hr;exact Ny hb
  |false=>
   rw[jA (by simp[hb])]at hr;rw[fill]at hR;simp only[Rf.T.sz]at hlo hfe ⊢;simp only[Tw.T.freeS]at hF;obtain⟨f1,f2⟩:=I5 hF;obtain⟨x,hx,hr⟩:=zbE.1 hr;obtain⟨y,hy,hr⟩:=zbE.1 hr;obtain⟨u,hu,hr⟩:=zbE.1 hr;obtain⟨v,hv,hr⟩:=zbE.1 hr;have l2:=Di m b hy;have l3:=Ff hu;have l4:=Ff hv;simp[Rf.RS.put]at l3;have l5:v.l.length<=sb.l.length:=by
    split at hr<;>cases hr
    ·simp[Rf.RS.put]
    ·exact znL _
   have hk:=hR.last (m:=n+Rf.T.sz a+Rf.T.sz b) (by rw[eA,Af,Af];omega);have iha:=Iq m a n sc e E sa x.1 x.2 f1 hS.2.1 hR.left.left hE (λb hb=>by have:=hlo b hb;omega) oM hx oM;have ihb:=Iq m b (n+Rf.T.sz a) sc e E x.2 y.1 y.2 f2 hS.2.2 (hR.left.right (by rw[Af])) hE (λb hb=>by have:=hlo b hb;omega) oM hy oM;refine(zvb (z:=Rf.T.sz a+Rf.T.sz b) hk (znL _) hb hl iha ihb hu hv ?_).more oM oM;have hsg:=hS.1;split at hr
   ·rename_i h;cases hr;refine .inl ⟨?_,rfl,rfl⟩;rcases h with rfl|rfl<;>simp[Gf]
   ·rename_i h;cases hr;refine .inr ⟨?_,rfl,rfl⟩;rcases hsg with rfl|rfl|rfl|rfl|rfl|rfl<;>simp[Gf]at h ⊢
 |.cond fr t0 c a b=>by
  intro n sc e E sa r sb hF hS hR hE hlo hfe hr hl;rw[rOf]at hr;cases hb:sa.bad with
  |true=>rw[mA hb]at hr;cases hr;exact Ny hb
  |false=>
   rw[jA (by simp[hb])]at hr;rw[fill]at hR;simp only[Rf.T.sz]at hlo hfe ⊢;simp only[Tw.T.freeS]at hF;obtain⟨f1,f3⟩:=I5 hF;obtain⟨f1,f2⟩:=I5 f1;obtain⟨x,hx,hr⟩:=zbE.1 hr;obtain⟨u,hu,hr⟩:=zbE.1 hr;obtain⟨y,hy,hr⟩:=zbE.1 hr;obtain⟨z,hz,hr⟩:=zbE.1 hr;obtain⟨v,hv,hr⟩:=zbE.1 hr;cases hr;have l2:=Ff hu;have l3:=Di m a hy;have l4:=Di m b hz;have l5:=Ff hv;simp[Rf.RS.put]at l2;have hk:=hR.last (m:=n+Rf.T.sz c+Rf.T.sz a+Rf.T.sz b) (by rw[eA,eA,Af,Af,Af];omega);have ihc:=Iq m c n sc e E sa x.1 x.2 f1 hS.1 hR.left.left.left hE (λb hb=>by have:=hlo b hb;omega) oM hx oM;have iha:=Iq m a (n+Rf.T.sz c) sc e E u y.1 y.2 f2 hS.2.1 (hR.left.left.right (by rw[Af])) hE (λb hb=>by have:=hlo b hb;omega) oM hy oM;have ihb:=Iq m b (n+Rf.T.sz c+Rf.T.sz a) sc e E y.2 z.1 z.2 f3 hS.2.2 (hR.left.right (by rw[eA,Af,Af];omega)) hE (λb hb=>by have:=hlo b hb;omega) oM hz oM;exact(ztg (z:=Rf.T.sz c+Rf.T.sz a+Rf.T.sz b) hk (znL _) hb oM ihc hu iha ihb hv rfl).more oM oM
 |.fn fr t0 bn bat b=>by
  intro n sc e E sa r sb hF hS hR hE hlo hfe hr hl;rw[rOf]at hr;cases hb:sa.bad with
  |true=>rw[mA hb]at hr;cases hr;exact Ny hb
  |false=>
   rw[jA (by simp[hb])]at hr;rw[fill]at hR;simp only[Rf.T.sz]at hlo hfe ⊢;simp only[Tw.T.freeS]at hF;obtain⟨x,hx,hr⟩:=zbE.1 hr;cases hr;have l1:=Di m b hx;have hl':=hl;simp[Rf.RS.put]at hl' l1;have hk:=hR.last (m:=n+Rf.T.sz b) (by rw[Af]);have hE':=hE.fix bn (n+Rf.T.sz b) sa.l.length (λb hb=>by have:=hlo b hb;omega);have ih:=Iq m b n ((bn,n+Rf.T.sz b)::sc) _ _ (sa.put ⟨118,0,0,none⟩) x.1 x.2 hF hS hR.left hE' (λb hb=>by
    rw[zmA]at hb;rcases hb with hb|hb
    ·have:=hlo b hb;omega
    ·simp at hb;rw[hb];exact znL _) (by simp;omega) hx oM
   exact(zvs hk hb oM oM (Zs oM ih) rfl).more oM oM
 |.Am fr t0 rc bn bat d b=>by
  intro n sc e E sa r sb hF hS hR hE hlo hfe hr hl;rw[rOf]at hr;cases hb:sa.bad with
  |true=>rw[mA hb]at hr;cases hr;exact Ny hb
  |false=>
   rw[jA (by simp[hb])]at hr;rw[fill]at hR;simp only[Rf.T.sz]at hlo hfe ⊢;simp only[Tw.T.freeS]at hF;obtain⟨f1,f2⟩:=I5 hF;have hk:=hR.last (m:=n+Rf.T.sz d+Rf.T.sz b) (by rw[eA,Af,Af];omega);cases rc with
   |false=>
    rw[jA sM]at hr;obtain⟨x,hx,hr⟩:=zbE.1 hr;have l2:x.2.l.length<=sb.l.length:=Di m b hr;have ihd:=Iq m d n sc e E sa x.1 x.2 f1 hS.1 hR.left.left hE (λb hb=>by have:=hlo b hb;omega) oM hx oM;have hE':=hE.dfn bn (n+Rf.T.sz d+Rf.T.sz b) x.1 (.Am fr t0 false bn bat d b) (λb hb=>by have:=hlo b hb;omega);have ihb:=Iq m b (n+Rf.T.sz d) ((bn,n+Rf.T.sz d+Rf.T.sz b)::sc) _ _ x.2 r sb f2 hS.2 (hR.left.right (by rw[Af])) hE' (λb hb=>by
     rw[zmA]at hb;rcases hb with hb|hb
     ·have:=hlo b hb;omega
     ·simp at hb;rw[hb];exact znL _) (by simp;omega) hr hl
    exact(zvc (z:=Rf.T.sz d+1+Rf.T.sz b) (znL _) hk hb ihd (Zs oM ihb) rfl).more oM oM
   |true=>
    rw[mA rfl]at hr;obtain⟨x,hx,hr⟩:=zbE.1 hr;obtain⟨u,hu,hr⟩:=zbE.1 hr;have l1:=Di m d hx;have l2:=Ff hu;have l3:u.l.length<=sb.l.length:=Di m b hr;simp[Rf.RS.put]at l1;have hE1:=hE.fix bn (n+Rf.T.sz d+Rf.T.sz b) sa.l.length (λb hb=>by have:=hlo b hb;omega);have ihd:=Iq m d n ((bn,n+Rf.T.sz d+Rf.T.sz b)::sc) _ _ (sa.put ⟨118,0,0,none⟩) x.1 x.2 f1 hS.1 hR.left.left hE1 (λb hb=>by
     rw[zmA]at hb;rcases hb with hb|hb
     ·have:=hlo b hb;omega
     ·simp at hb;rw[hb];simp) (by simp;omega) hx oM
    have hE':=hE.dfn bn (n+Rf.T.sz d+Rf.T.sz b) sa.l.length (.Am fr t0 true bn bat d b) (λb hb=>by have:=hlo b hb;omega);have ihb:=Iq m b (n+Rf.T.sz d) ((bn,n+Rf.T.sz d+Rf.T.sz b)::sc) _ _ u r sb f2 hS.2 (hR.left.right (by rw[Af])) hE' (λb hb=>by
     rw[zmA]at hb;rcases hb with hb|hb
     ·have:=hlo b hb;omega
     ·simp at hb;rw[hb];exact znL _) (by simp;omega) hr hl
    exact(zvd (z:=Rf.T.sz d+1+Rf.T.sz b) (znL _) hk hb oM (Zs oM ihd) hu (Zs oM ihb) rfl).more oM oM
end
end
end
namespace Tw
section
open Go
section
variable{S S':Nat->Ty->Prop}{l:List (Option Val)}
def T.two:T->Option (T×T)
 |.pair _ _ l r=>some (l,r)
 |.call _ _ l r=>some (l,r)
 |.binary _ _ _ l r=>some (l,r)
 |_=>none
inductive Rns(bud:Nat):T->Cr->RS->Option Val->RS->Prop
 |name {fr t0:Nat} {x:List UInt8} {e:Cr} {st:RS} {i:Nat} {v:Val} (h:Gw e x=some i) (h2:st.Al[i]?=some (some v)):Rns bud (.name fr t0 x) e st (some v) st
 |zrz {fr t0:Nat} {x:List UInt8} {e:Cr} {st:RS} {i:Nat} (h:Gw e x=some i) (h2:st.Al[i]?=some none):Rns bud (.name fr t0 x) e st none {st with fin:=1}
 |int {fr t0:Nat} {v:Int} {e:Cr} {st:RS}:Rns bud (.int fr t0 v) e st (some (.num v)) st
 |Ak {fr t0:Nat} {b:Bool} {e:Cr} {st:RS}:Rns bud (.Ak fr t0 b) e st (some (.Ak b)) st
 |side {fr t0:Nat} {b:Bool} {e:Cr} {st:RS}:Rns bud (.side fr t0 b) e st (some (.side b)) st
 |fn {fr t0 bat:Nat} {bn:List UInt8} {b:T} {e:Cr} {st:RS}:Rns bud (.fn fr t0 bn bat b) e st (some (.clo fr t0 bn bat b e)) st
 |bracket {fr t0:Nat} {i:T} {e:Cr} {st st1:RS} {r:Option Val} (h:Rns bud i e st r st1):Rns bud (.bracket fr t0 i) e st r st1
 |letE {fr t0 bat:Nat} {rc:Bool} {bn:List UInt8} {d b:T} {e:Cr} {st st1:RS} (h:Rns bud d (if rc then(bn,st.Al.length)::e else e) {st with Al:=st.Al++[none]} none st1):Rns bud (.Am fr t0 rc bn bat d b) e st none st1
 |Am {fr t0 bat:Nat} {rc:Bool} {bn:List UInt8} {d b:T} {e:Cr} {st st1 st2:RS} {x:Val} {r:Option Val} (h:Rns bud d (if rc then(bn,st.Al.length)::e else e) {st with Al:=st.Al++[none]} (some x) st1) (h2:Rns bud b ((bn,st.Al.length)::e) {st1 with Al:=st1.Al.set st.Al.length (some x)} r st2):Rns bud (.Am fr t0 rc bn bat d b) e st r st2
 |zr5 {fr t0:Nat} {c t f:T} {e:Cr} {st st1:RS} (h:Rns bud c e st none st1):Rns bud (.cond fr t0 c t f) e st none st1
 |cond {fr t0:Nat} {c t f:T} {e:Cr} {st st1 st2:RS} {q:Bool} {r:Option Val} (h:Rns bud c e st (some (.Ak q)) st1) (h2:Rns bud (if q then t else f) e st1 r st2):Rns bud (.cond fr t0 c t f) e st r st2
 |left {t l r:T} {e:Cr} {st st1:RS} (ht:t.two=some (l,r)) (h:Rns bud l e st none st1):Rns bud t e st none st1
 |right {t l r:T} {e:Cr} {st st1 st2:RS} {x:Val} (ht:t.two=some (l,r)) (h:Rns bud l e st (some x) st1) (h2:Rns bud r e st1 none st2):Rns bud t e st none st2
 |pair {fr t0:Nat} {l r:T} {e:Cr} {st st1 st2:RS} {x y:Val} (h:Rns bud l e st (some x) st1) (h2:Rns bud r e st1 (some y) st2):Rns bud (.pair fr t0 l r) e st (some (.pair x y)) st2
 |binary {fr t0:Nat} {s a b:Int} {l r:T} {e:Cr} {st st1 st2:RS} (h:Rns bud l e st (some (.num a)) st1) (h2:Rns bud r e st1 (some (.num b)) st2):Rns bud (.binary fr t0 s l r) e st (Dj s a b st2).1 (Dj s a b st2).2
 |part {fr t0:Nat} {l r:T} {e:Cr} {st st1 st2:RS} {sec:Bool} {x y:Val} (h:Rns bud l e st (some (.side sec)) st1) (h2:Rns bud r e st1 (some (.pair x y)) st2):Rns bud (.call fr t0 l r) e st (some (if sec then y else x)) st2
 |zrq {fr t0 fr' t0' bat:Nat} {bn:List UInt8} {l r b:T} {e env:Cr} {st st1 st2:RS} {y:Val} (h:Rns bud l e st (some (.clo fr' t0' bn bat b env)) st1) (h2:Rns bud r e st1 (some y) st2) (hs:st2.steps=bud):Rns bud (.call fr t0 l r) e st none {st2 with fin:=2}
 |call {fr t0 fr' t0' bat:Nat} {bn:List UInt8} {l r b:T} {e env:Cr} {st st1 st2 st3:RS} {y:Val} {v:Option Val} (h:Rns bud l e st (some (.clo fr' t0' bn bat b env)) st1) (h2:Rns bud r e st1 (some y) st2) (hs:st2.steps≠bud) (h3:Rns bud b ((bn,st2.Al.length)::env) {st2 with Al:=st2.Al++[some y],steps:=st2.steps+1} v st3):Rns bud (.call fr t0 l r) e st v st3
def Mat(S:Nat->Ty->Prop)(e:Cr)(G:TEn):Prop:=∀x,
 (∀a,G.look x=some (.inl a)->∃i,Gw e x=some i/\S i a)/\∀t o,G.look x=some (.inr (t,o))->∃i,Gw e x=some i/\∀a,Og t o a->S i a
def VT(S:Nat->Ty->Prop):Val->Ty->Prop
 |.num _,a=>a=.int
 |.Ak _,a=>a=.bool
 |.side b,a=>∃x y,a=.fn (.pair x y) (if b then y else x)
 |.pair l r,a=>∃x y,a=.pair x y/\VT S l x/\VT S r y
 |.clo _ _ bn _ b env,a=>∃G x y,a=.fn x y/\Mat S env G/\Typ b (.fix bn x G) y
structure Ur(S:Nat->Ty->Prop)(l:List (Option Val)):Prop where
 lt:∀i a,S i a->i<l.length
 val:∀i a v,S i a->l[i]?=some (some v)->VT S v a
theorem Mat.mono(h:∀i a,S i a->S' i a){e:Cr}{G:TEn}(m:Mat S e G):Mat S' e G:=λx=>
 ⟨λa d=>(let⟨i,b,c⟩:=(m x).1 a d;⟨i,b,h _ _ c⟩),λt o f=>(let⟨i,b,c⟩:=(m x).2 t o f;⟨i,b,λa d=>h _ _ (c a d)⟩)⟩
theorem VT.mono(h:∀i a,S i a->S' i a):∀ {v:Val} {a:Ty},VT S v a->VT S' v a
 |.num _,_,k=>k
 |.Ak _,_,k=>k
 |.side _,_,k=>k
 |.pair _ _,_,⟨x,y,e,k1,k2⟩=>⟨x,y,e,k1.mono h,k2.mono h⟩
 |.clo _ _ _ _ _ _,_,⟨G,x,y,e,m,t⟩=>⟨G,x,y,e,m.mono h,t⟩
def zhr(S:Nat->Ty->Prop)(n:Nat)(a:Ty)(i:Nat)(b:Ty):Prop:=S i b\/i=n/\b=a
theorem Ur.add(h:Ur S l)(a:Ty){v:Option Val}(hv:∀x,v=some x->VT S x a):Ur (zhr S l.length a) (l++[v]):=by
 refine⟨λi b k=>?_,λi b x k e=>?_⟩
 ·rcases k with k|⟨rfl,_⟩
  ·have:=h.lt _ _ k;simp;omega
  ·simp
 ·refine VT.mono (λ_ _=>.inl) ?_;rcases k with k|⟨rfl,rfl⟩
  ·rw[iA (h.lt _ _ k)]at e;exact h.val _ _ _ k e
  ·simp at e;exact hv _ e
theorem Mat.fix{S:Nat->Ty->Prop}{e:Cr}{G:TEn}(m:Mat S e G)(bn:zU)(n:Nat)(a:Ty):Mat (zhr S n a) ((bn,n)::e) (.fix bn a G):=by
 intro x;by_cases b:bn=x
 ·simp only[TEn.look,Gw,mA b];exact⟨λf c=>⟨n,rfl,.inr ⟨rfl,by cases c;rfl⟩⟩,λt o d=>by cases d⟩
 ·simp only[TEn.look,Gw,jA b];exact m.mono (λ_ _=>.inl) x
def Snd(d:Nat)(t:T)(e:Cr)(st:RS)(r:Option Val)(b:RS)(S:Nat->Ty->Prop)(a:Ty):Prop:=
 Rns d t e st r b/\st.Al.length<=b.Al.length/\∃S',Ur S' b.Al/\(∀i c,i<st.Al.length->(S' i c↔S i c))/\∀v,r=some v->VT S' v a
theorem up(h:Ur S l)(k:∀i b,i<l.length->(S' i b↔S i b)):∀i b,S i b->S' i b:=λi b a=>(k i b (h.lt _ _ a)).2 a
theorem zth(bud:Nat):∀(n:Nat) (t:T) (e:Cr) (st:RS) (r:Option Val) (st1:RS) (G:TEn) (a:Ty) (S:Nat->Ty->Prop),A9 bud n t e st=some (r,st1)->Typ t G a->Mat S e G->Ur S st.Al->Snd bud t e st r st1 S a:=by
 intro n
 induction n with
 |zero=>intro t e st r st1 G a S h;simp[A9]at h
 |succ n ih=>
 have both:∀ {t l r:T} {e:Cr} {st:RS} {c:Option (Val×Val)×RS} {G:TEn} {a b:Ty} {S:Nat->Ty->Prop},t.two=some (l,r)->Lw bud n l r e st=some c->Typ l G a->Typ r G b->Mat S e G->Ur S st.Al ->
   (c.1=none/\∀z,Snd bud t e st none c.2 S z)\/∃x y st1 S',c.1=some (x,y)/\Rns bud l e st (some x) st1/\Rns bud r e st1 (some y) c.2/\st.Al.length<=c.2.Al.length/\Ur S' c.2.Al/\(∀i b,i<st.Al.length->(S' i b↔S i b))/\VT S' x a/\VT S' y b:=by
  intro t l r e st c G a b S ht h hl hr m g;unfold Lw at h;obtain⟨⟨x,st1⟩,h1,h⟩:=zbE.1 h;obtain⟨r1,l1,S1,g1,k1,v1⟩:=ih _ _ _ _ _ _ _ _ h1 hl m g;cases x with
  |none=>cases h;exact .inl ⟨rfl,λz=>⟨.left ht r1,l1,S1,g1,k1,nofun⟩⟩
  |some x=>
   obtain⟨⟨y,st2⟩,h2,h⟩:=zbE.1 h;obtain⟨r2,l2,S2,g2,k2,v2⟩:=ih _ _ _ _ _ _ _ _ h2 hr (m.mono (up g k1)) g1;have k:∀i b,i<st.Al.length->(S2 i b↔S i b):=λi b hi=>(k2 i b (aB hi l1)).trans (k1 i b hi);cases y with
   |none=>cases h;exact .inl ⟨rfl,λz=>⟨.right ht r1 r2,kB l1 l2,S2,g2,k,nofun⟩⟩
   |some y=>cases h;exact .inr ⟨x,y,st1,S2,rfl,r1,r2,kB l1 l2,g2,k,(v1 _ rfl).mono (up g1 k2),v2 _ rfl⟩
 intro t e st r st1 G a S h ht m g;have same:∀ {v:Val},VT S v a->Rns bud t e st (some v) st->Snd bud t e st (some v) st S a:=λhv hr=>⟨hr,znL _,S,g,λ_ _ _=>.rfl,λw hw=>by cases hw;exact hv⟩;cases ht with
 |int=>simp only[A9]at h;split at h<;>cases h;exact same rfl .int
 |Ak=>cases h;exact same rfl .Ak
 |side=>cases h;exact same ⟨_,_,rfl⟩ .side
 |fn ht=>cases h;exact same ⟨G,_,_,rfl,m,ht⟩ .fn
 |bracket ht=>
  rw[A9]at h;obtain⟨h1,h2⟩:=ih _ _ _ _ _ _ _ _ h ht m g;exact⟨.bracket h1,h2⟩
 |name hl=>
  obtain⟨i,hi,hs⟩:=(m _).1 _ hl;rw[A9,hi,zbS]at h;split at h
  ·cases h
  ·cases h;rename_i q;exact⟨.zrz hi q,znL _,S,g,λ_ _ _=>.rfl,nofun⟩
  ·cases h;rename_i q;exact same (g.val _ _ _ hs q) (.name hi q)
 |use hl hd=>
  obtain⟨i,hi,hs⟩:=(m _).2 _ _ hl;rw[A9,hi,zbS]at h;split at h
  ·cases h
  ·cases h;rename_i q;exact⟨.zrz hi q,znL _,S,g,λ_ _ _=>.rfl,nofun⟩
  ·cases h;rename_i q;exact same (g.val _ _ _ (hs _ hd) q) (.name hi q)
 |@pair fr t0 l r0 _ p q hl hr=>
  rw[Np]at h;obtain⟨c,hb,h⟩:=zbE.1 h;obtain⟨c1,c2⟩:=c;rcases both (t:=.pair fr t0 l r0) rfl hb hl hr m g with⟨rfl,k⟩|⟨x,y,s1,S',rfl,r1,r2,ln,g',k,vx,vy⟩<;>cases h
  ·exact k _
  ·exact⟨.pair r1 r2,ln,S',g',k,λv hv=>by cases hv;exact⟨_,_,rfl,vx,vy⟩⟩
 |@binary fr t0 s l r0 _ hl hr=>
  rw[Jy]at h;obtain⟨c,hb,h⟩:=zbE.1 h;obtain⟨c1,c2⟩:=c;rcases both (t:=.binary fr t0 s l r0) rfl hb hl hr m g with⟨rfl,k⟩|⟨x,y,s1,S',rfl,r1,r2,ln,g',k,vx,vy⟩
  ·cases h;exact k _
  ·cases x<;>simp[VT]at vx;cases y<;>simp[VT]at vy;simp only[Um,zsI]at h;have R:=Rns.binary (fr:=fr) (t0:=t0) (s:=s) r1 r2;rw[h]at R;have e2:st1.Al=c2.Al/\∀v,r=some v->VT S' v (if s=23\/s=15 then .bool else .int):=by
    unfold Dj at h;split at h<;>(try split at h)<;>(try split at h)<;>(try split at h)<;>(try split at h)<;>(try split at h)<;>cases h<;>simp_all[VT]
   exact⟨R,by rw[e2.1];exact ln,S',by rw[e2.1];exact g',k,e2.2⟩
 |@cond fr t0 c t f _ _ hc ht hf=>
  rw[A9]at h;obtain⟨⟨x,s1⟩,h1,h⟩:=zbE.1 h;obtain⟨r1,l1,S1,g1,k1,v1⟩:=ih _ _ _ _ _ _ _ _ h1 hc m g;cases x with
  |none=>cases h;exact⟨.zr5 r1,l1,S1,g1,k1,nofun⟩
  |some x=>
   have:=v1 _ rfl;cases x<;>simp[VT]at this;rename_i q;have h2:A9 bud n (if q then t else f) e s1=some (r,st1):=(by cases q<;>simpa using h);obtain⟨r2,l2,S2,g2,k2,v2⟩:=ih _ _ _ _ _ _ a _ h2 (by cases q<;>assumption) (m.mono (up g k1)) g1;exact⟨.cond r1 r2,kB l1 l2,S2,g2,λi b hi=>(k2 i b (aB hi l1)).trans (k1 i b hi),v2⟩
 |@call fr t0 l r0 _ p q hf hx=>
  rw[Gg]at h;obtain⟨c,hb,h⟩:=zbE.1 h;obtain⟨c1,c2⟩:=c;rcases both (t:=.call fr t0 l r0) rfl hb hf hx m g with⟨rfl,k⟩|⟨x,y,s1,S',rfl,r1,r2,ln,g',k,vx,vy⟩
  ·cases h;exact k _
  ·cases x<;>simp[VT]at vx
   ·rename_i sec;obtain⟨p,q,⟨rfl,rfl⟩,rfl⟩:=vx;cases y<;>simp[VT]at vy;obtain⟨_,_,⟨rfl,rfl⟩,e1,e2⟩:=vy;cases h;exact⟨.part r1 r2,ln,S',g',k,λv hv=>by cases hv;cases sec;exact e1;exact e2⟩
   ·obtain⟨G',_,_,⟨rfl,rfl⟩,m',tb⟩:=vx;simp only[St]at h;split at h
    ·rename_i hs;cases h;exact⟨.zrq r1 r2 hs,ln,S',g',k,nofun⟩
    ·rename_i hs;obtain⟨r3,l3,S3,g3,k3,v3⟩:=ih _ _ _ _ _ _ _ _ h tb (m'.fix _ _ _) (g'.add _ λ_ e=>by cases e;exact vy);simp only[eA,wB]at l3 k3 ln;exact⟨.call r1 r2 hs r3,oM,S3,g3,λi b hi=>(k3 i b oM).trans ⟨λq=>q.elim (k i b hi).1 oM,λq=>.inl ((k i b hi).2 q)⟩,v3⟩
 |@Am fr t0 bat rc bn d b _ a0 _ hd hb=>
  rw[A9]at h;obtain⟨⟨x,s1⟩,h1,h⟩:=zbE.1 h;have each:∀c,Og (.Am fr t0 rc bn bat d b) G c->Snd bud d (if rc then(bn,st.Al.length)::e else e) {st with Al:=st.Al++[none]} x s1 (zhr S st.Al.length c) c:=λc hc=>by
   cases hc with
   |plain hc=>exact ih _ _ _ _ _ _ _ _ h1 hc (m.mono λ_ _=>.inl) (g.add _ nofun)
   |zon hc=>exact ih _ _ _ _ _ _ _ _ h1 hc (m.fix _ _ _) (g.add _ nofun)
  obtain⟨r1,l1,S1,g1,k1,v1⟩:=each _ hd;simp only[eA,wB]at l1 k1;have old:∀ {S':Nat->Ty->Prop} {c:Ty},(∀i b,i<st.Al.length+1->(S' i b↔zhr S st.Al.length c i b))->∀i b,i<st.Al.length->(S' i b↔S i b):=λk i b hi=>(k i b oM).trans ⟨λq=>q.elim id oM,.inl⟩;cases x with
  |none=>cases h;exact⟨.letE r1,by simp only;omega,S1,g1,old k1,nofun⟩
  |some x=>
   let U:Nat->Ty->Prop:=λj c=>∃q S',Ur S' s1.Al/\(∀i b,i<st.Al.length+1->(S' i b↔zhr S st.Al.length q i b))/\VT S' x q/\S' j c;have gU:Ur U (s1.Al.set st.Al.length (some x)):=by
    refine⟨λi c ⟨q,S',g',_,_,k⟩=>by rw[jB];exact g'.lt _ _ k,λi c v ⟨q,S',g',k',v',k⟩ hv=>VT.mono (λj c k=>⟨q,S',g',k',v',k⟩) ?_⟩;by_cases hi:i=st.Al.length
    ·subst hi;rw[List.getElem?_set_self oM]at hv;cases hv;rcases(k' _ _ oM).1 k with k|⟨_,rfl⟩
     ·exact absurd (g.lt _ _ k) oM
     ·exact v'
    ·rw[qD (λq=>hi q.symm)]at hv;exact g'.val _ _ _ k hv
   have kU:∀i b,i<st.Al.length->(U i b↔S i b):=λi b hi=>⟨λ⟨q,S',_,k',_,k⟩=>(old k' i b hi).1 k,λk=>⟨a0,S1,g1,k1,v1 _ rfl,(old k1 i b hi).2 k⟩⟩;have mU:Mat U ((bn,st.Al.length)::e) (.dfn bn (.Am fr t0 rc bn bat d b) G):=by
    intro y;by_cases hy:bn=y
    ·simp only[TEn.look,Gw,mA hy];refine⟨nofun,λt o ho=>⟨_,rfl,λc hc=>?_⟩⟩;cases ho;obtain⟨_,_,S2,g2,k2,v2⟩:=each c hc;simp only[eA,wB]at k2;exact⟨c,S2,g2,k2,v2 _ rfl,(k2 _ _ oM).2 (.inr ⟨rfl,rfl⟩)⟩
    ·simp only[TEn.look,Gw,jA hy];exact m.mono (up g kU) y
   obtain⟨r2,l2,S3,g3,k3,v3⟩:=ih _ _ _ _ _ _ _ _ h hb mU gU;simp only[jB]at l2 k3;exact⟨.Am r1 r2,oM,S3,g3,λi b hi=>(k3 i b oM).trans (kU i b hi),v3⟩
end
end
end Tw
section
open Tw Tw.Rf Go.Proofs.Tryz
open Go.RowKit
section
structure SB where
 blk:Nat
 node:Nat
 up:Value
structure Tc where
 br:Nat
 bt:Nat
 s:ByteArray
 body:List Tw.Tok
 N:List RN
 tv:Value
 nv:Value
 root:Int
 er:Int
 f:Nat->Nat
 g:Nat->Nat
 most:Nat
def Tw.Jk(P:Nat->Int->Prop):Tw.T->Prop
 |.int fr _ v=>P fr v
 |.name ..|.Ak ..|.side .. =>True
 |.bracket _ _ i=>Jk P i
 |.pair _ _ l r|.call _ _ l r|.binary _ _ _ l r=>Jk P l/\Jk P r
 |.cond _ _ c t f=>Jk P c/\Jk P t/\Jk P f
 |.fn _ _ _ _ b=>Jk P b
 |.Am _ _ _ _ _ d b=>Jk P d/\Jk P b
def Tw.Num(d:zU)(v:Int):Prop:=Me d=some v/\(∀c∈d,B6 c.toNat=true)/\d.length<=9
def Tc.int(C:Tc)(fr:Nat)(v:Int):Prop:=∃tk,C.body[C.f fr]?=some tk/\Num (Bv C.s.data.toList tk.fr tk.to) v
structure Plc(C:Tc)(t:Tw.T)(n:Nat)(sc:Sc):Prop where
 run:Run C.N n (fill C.f C.g t n sc)
 sg:Qe t
 int:Jk C.int t
 up:∀q∈sc,n+Rf.T.sz t<=q.2
inductive EvA(K:List SB):Value->Cr->Sc->Prop
 |nil:EvA K (.pointer none) [] []
 |cons {b:SB} {e:Cr} {sc:Sc} {i:Nat} (x:List UInt8) (hb:K[i]?=some b) (hj:∀q∈sc,b.node<q.2) (h:EvA K b.up e sc):EvA K (.pointer (some ⟨b.blk,0,none⟩)) ((x,i)::e) ((x,b.node)::sc)
inductive VlR(C:Tc)(w:World)(K:List SB):Val->Value->Prop
 |num {b:Nat} {n:Int} (hr :-9223372036854775808<=n/\n<=9223372036854775807) (h:w.heap[b]?=some (.cells #[.int .u8 105,.int .i64 n,.pointer none,.pointer none,.pointer none] 289 (0,0))):VlR C w K (.num n) (.pointer (some ⟨b,0,none⟩))
 |Ak {b:Nat} {q:Bool} (h:w.heap[b]?=some (.cells #[.int .u8 98,.int .i64 (if q then 1 else 0),.pointer none,.pointer none,.pointer none] 289 (0,0))):VlR C w K (.Ak q) (.pointer (some ⟨b,0,none⟩))
 |side {b:Nat} {q:Bool} (h:w.heap[b]?=some (.cells #[.int .u8 (if q then 50 else 49),.int .i64 0,.pointer none,.pointer none,.pointer none] 289 (0,0))):VlR C w K (.side q) (.pointer (some ⟨b,0,none⟩))
 |pair {b:Nat} {x y:Val} {p q:Value} (h:w.heap[b]?=some (.cells #[.int .u8 44,.int .i64 0,p,q,.pointer none] 289 (0,0))) (h1:VlR C w K x p) (h2:VlR C w K y q):VlR C w K (.pair x y) (.pointer (some ⟨b,0,none⟩))
 |clo {b fr t0 bat n:Nat} {bn:List UInt8} {t:Tw.T} {env:Cr} {sc:Sc} {p:Value} (h:w.heap[b]?=some (.cells #[.int .u8 70,.int .i64 (n+Rf.T.sz t:Nat),.pointer none,.pointer none,p] 289 (0,0))) (hp:Plc C (.fn fr t0 bn bat t) n sc) (he:EvA K p env sc):VlR C w K (.clo fr t0 bn bat t env) (.pointer (some ⟨b,0,none⟩))
structure RW(C:Tc)(w:World)(K:List SB)(st:Tw.RS):Prop where
 rt:RT w 0 C.bt C.s C.body C.N C.tv C.nv C.root C.er
 run:w.heap[C.br]?=some (.cells #[.pointer (some ⟨C.bt,0,none⟩),.int .i64 st.steps,.int .i64 C.most,.int .i64 st.fin] 164 (0,0))
 len:K.length=st.Al.length
 inc:K.Pairwise (·.blk < ·.blk)
 at':∀(i:Nat) (b:SB) (v:Option Val),K[i]?=some b->st.Al[i]?=some v->∃p,w.heap[b.blk]?=some (.cells #[.int .i64 b.node,p,b.up] 287 (0,0))/\(v=none->p=.pointer none)/\∀x,v=some x->VlR C w K x p
def RnP(C:Tc)(w:World)(K:List SB)(r:Option Val)(st:Tw.RS)(e:Ending)(w':World):Prop:=
 ∃v a,e=.returned v/\w.grownBy w' (some C.br)/\RW C w' (K++a) st/\(r=none->v=.pointer none)/\∀x,r=some x->VlR C w' (K++a) x v
def ROf(C:Tc)(k:Int)(sc:Sc)(e:Cr)(st:Tw.RS)(r:Option Val)(st':Tw.RS):Prop:=
 ∀(w:World) (K:List SB) (p:Value),RW C w K st->EvA K p e sc->Calls prog 74 #[.pointer (some ⟨C.br,0,none⟩),.int .i64 k,p] w (RnP C w K r st')
section
variable {C:Tc}{w w':World}{K:List SB}{st:Tw.RS}{p:Value}{e:Tw.Cr}{sc:Tw.Rf.Sc}
variable{p:Value}
theorem EvA.more(K2:List SB)(h:EvA K p e sc):EvA (K++K2) p e sc:=by
 induction h with
 |nil=>exact .nil
 |cons x hb hj _ ih=>exact .cons x (by rw[iA (zlE.1 hb).1];exact hb) hj ih
theorem VlR.more(K2:List SB)(a:∀ {b:Nat} {c:Array Value},zH w b c 289->zH w' b c 289){x:Val}(h:VlR C w K x p):VlR C w' (K++K2) x p:=by
 induction h with
 |num hr h=>exact .num hr (a h)
 |Ak h=>exact .Ak (a h)
 |side h=>exact .side (a h)
 |pair h _ _ i1 i2=>exact .pair (a h) i1 i2
 |clo h hp he=>exact .clo (a h) hp (he.more K2)
theorem VlR.blk{x:Val}(h:VlR C w K x p):∃b,p=pT b:=by cases h<;>exact⟨_,rfl⟩
theorem RW.Aq(h:RW C w K st)(d:w.grownBy w' (some C.br)){b:Nat}{c:Array Value}{u:TypeId}{m:Nat×Nat}(f:u≠164)(a:w.heap[b]?=some (.cells c u m)):w'.heap[b]?=some (.cells c u m):=
 (d.block b (zgE.1 a).1 (by rintro e;cases e;rw[h.run]at a;cases a;exact f rfl)).trans a
theorem RW.val(h:RW C w K st)(b:w.grownBy w' (some C.br))(K2:List SB){x:Val}(k:VlR C w K x p):VlR C w' (K++K2) x p:=k.more K2 λa=>h.Aq b dZ a
theorem RW.next(h:RW C w K st)(a:w.grownBy w' (some C.br)){steps:Nat}{fin:Int}(m:zH w' C.br #[pT C.bt,vI steps,vI C.most,vI fin] 164):RW C w' K {st with steps:=steps,fin:=fin} where
 rt:={h.rt with tree:=h.Aq a dZ h.rt.tree,Eh:=Ai h.rt.Eh λj c b=>h.Aq a dZ b,nodes:=Ai h.rt.nodes λj c b=>h.Aq a dZ b}
 run:=m
 len:=h.len
 inc:=h.inc
 at':=λo i v k l=>by
  obtain⟨p,d,f,g⟩:=h.at' o i v k l;exact⟨p,h.Aq a dZ d,f,λx n=>by have:=h.val a [] (g x n);rwa[List.append_nil]at this⟩
theorem RW.grown(h:RW C w K st)(a:zG w w'):RW C w' K st:=h.next (Ay a) (zbG a h.run)
theorem RW.push(h:RW C w K st){b:SB}{v:Option Val}(r:zH w b.blk #[vI b.node,p,b.up] 287)(y:∀q∈K,q.blk<b.blk)(m:v=none->p=.pointer none)(n:∀x,v=some x->VlR C w K x p):RW C w (K++[b]) {st with Al:=st.Al++[v]} where
 rt:=h.rt
 run:=h.run
 len:=by simp[h.len]
 inc:=List.pairwise_append.2 ⟨h.inc,sM,λg o q z=>by rw[xB.1 z];exact y g o⟩
 at':=λi c A a d=>by
  simp only at d;have t:=h.len;by_cases s:i<K.length
  ·rw[iA s]at a;rw[iA oM]at d;obtain⟨q,j,k,l⟩:=h.at' i c A a d;exact⟨q,j,k,λx f=>(l x f).more [b] id⟩
  ·have:i=K.length:=(by have:=(zlE.1 a).1;simp at this;omega);subst this;rw[fB (znL _)]at a;rw[t,fB (znL _)]at d;simp at a d;subst a d;exact⟨p,r,m,λx f=>(n x f).more [b] id⟩
theorem RW.lt(h:RW C w K st):∀q∈K,q.blk<w.heap.size:=λq c=>by
 obtain⟨i,a,e⟩:=eE c;obtain⟨p,b,_⟩:=h.at' i q _ (by rw[fA a,e]) (fA (by rw[<-h.len];exact a));exact(zgE.1 b).1
theorem RW.put{a K2:List SB}{b:SB}(h:RW C w (a++b::K2) st){x:Val}(M:VlR C w (a++b::K2) x p):RW C (w.setCell ⟨b.blk,1,none⟩ p) (a++b::K2) {st with Al:=st.Al.set a.length (some x)}:=by
 have hK:(a++b::K2)[a.length]?=some b:=sM;have t:a.length<st.Al.length:=by rw[<-h.len];simp
 obtain⟨E,z,_,_⟩:=h.at' _ b _ hK (fA t);have Aq:∀ {j:Nat} {c:Array Value} {f:TypeId} {o:Nat×Nat},f≠287->w.heap[j]?=some (.cells c f o)->(w.setCell ⟨b.blk,1,none⟩ p).heap[j]?=some (.cells c f o):=λ{j c f o} L d=>(aA w ⟨b.blk,1,none⟩ j _ (by rintro rfl;rw[z]at d;cases d;exact L rfl)).trans d;have F:∀ {y:Val} {r:Value},VlR C w (a++b::K2) y r->VlR C (w.setCell ⟨b.blk,1,none⟩ p) (a++b::K2) y r:=λk=>by have:=k.more [] (Aq dZ);rwa[List.append_nil]at this
 refine⟨{h.rt with tree:=Aq dZ h.rt.tree,Eh:=Ai h.rt.Eh λJ c d=>Aq dZ d,nodes:=Ai h.rt.nodes λJ c d=>Aq dZ d},Aq dZ h.run,by simp[h.len],h.inc,λA c f i g=>?_⟩;simp only at g;by_cases l:A=a.length
 ·subst l;rw[hK]at i;cases i;rw[List.getElem?_set_self t]at g;cases g;exact⟨p,Bu z p,nofun,λy n=>by cases n;exact F M⟩
 ·rw[qD (λE=>l E.symm)]at g;obtain⟨r,G,H,I⟩:=h.at' A c f i g;refine⟨r,(aA w ⟨b.blk,1,none⟩ c.blk _ ?_).trans G,H,λy n=>F (I y n)⟩;intro e;have v:=List.pairwise_iff_getElem.1 h.inc;obtain⟨B,q⟩:=zlE.1 i;obtain⟨D,s⟩:=zlE.1 hK;rcases Nat.lt_or_gt_of_ne l with m|m
  ·have:=v _ _ B D m;rw[q,s]at this;exact absurd e (by simp;omega)
  ·have:=v _ _ D B m;rw[q,s]at this;exact absurd e (by simp;omega)
theorem zqu{x:zU}{i:Nat}(h:EvA K p e sc)(a:Gw e x=some i):∃b,K[i]?=some b/\Cy sc x=(b.node:Int)/\∃q∈sc,q.2=b.node:=by
 induction h with
 |nil=>simp[Gw]at a
 |@cons b e sc j y hb hj h ih=>
  by_cases d:y=x
  ·simp only[Gw,mA d]at a;cases a;exact⟨b,hb,by simp[Cy,d],(y,b.node),sM,rfl⟩
  ·simp only[Gw,jA d]at a;obtain⟨c,f,g,q,k,l⟩:=ih a;exact⟨c,f,by simp[Cy,d,g],q,by simp[k],l⟩
end
end
end
section
open Tw Go.Proofs.Tryz
open Go.RowKit
section
variable{d:List UInt8}{v:Int}
theorem Tw.zhb:∀(d:zU) (b u:Nat),(∀c∈d,B6 c.toNat=true)->Lib.parseUintM (2 ^ 64-1) b d=.ok u->u=d.foldl (λa c=>a*10+(c.toNat-48)) b
 |[],b,u,_,h=>by simpa[Lib.parseUintM]using h.symm
 |c::r,b,u,hd,h=>by
  have e:=hd c sM;simp[B6,decide_eq_true_eq]at e;rw[Lib.parseUintM,mA oM]at h;split at h
  ·cases h
  ·split at h
   ·cases h
   ·exact zhb r _ u (λx f=>hd x (by simp[f])) h
theorem Tw.Num.fold(h:Num d v):v=(d.foldl (λa c=>a*10+(c.toNat-48)) 0:Nat):=by
 have⟨b,f,_⟩:=h;unfold Me Lib.parseIntB at b;cases d with
 |nil=>simp at b
 |cons c r=>
  have i:=f c sM;simp[B6,decide_eq_true_eq]at i;simp only at b;rw[jA (show¬(c.toNat=43\/c.toNat=45) by omega),Lib.parseUintB,jA sM]at b;cases e:Lib.parseUintM (2 ^ 64-1) 0 (c::r)with
  |ok u=>
   rw[e]at b;simp only at b;rw[<-zhb _ _ _ f e];by_cases g:2 ^ (64-1)<=u
   ·rw[mA ⟨oM,g⟩]at b;cases b
   ·rw[jA (λq=>g q.2),jA oM,jA oM]at b;cases b;rfl
  |_=>rw[e]at b;cases b
theorem Tw.Num.range(h:Num d v):-9223372036854775808<=v/\v<=9223372036854775807:=by
 have a:=h.1;unfold Me at a;split at a
 ·cases a;exact Ri (by assumption)
 ·cases a
theorem zhc{s:ByteArray}(h:Num s.data.toList v)(w:World):Calls prog 135 #[.string s] w λe w'=>e=.returned (vI v)/\w'=w:=by
 have t:s.size<=9:=h.2.2;go_in;go_wp21;go_loopg[3,4] s.size (λp q o wr=>∃(i x:Nat),q=vI x/\o=vI i/\wr=w/\i+p=s.size/\x<10 ^ i/\Hid (x=(s.data.toList.take i).foldl (λa c=>a*10+(c.toNat-48)) 0))
 case atStart=>exact⟨0,0,rfl,rfl,rfl,sM,sM,rfl⟩
 case round=>
  obtain⟨i,x,rfl,rfl,rfl,r,n,b⟩:=hrel;have y:x<10 ^ 9:=aB n (Nat.pow_le_pow_right oM oM);by_cases f:i<s.size
  ·have k:(i:Int)<(s.size:Int):=oM;have j:=h.2.1 s[i] (List.getElem_mem (l:=s.data.toList) f);simp[B6,decide_eq_true_eq]at j;have g:x*10+(s[i].toNat-48)=(s.data.toList.take (i+1)).foldl (λa c=>a*10+(c.toNat-48)) 0:=by
    show _=_;rw[cE (by exact f),List.foldl_append,<-uh b];rfl
   have m:x*10+(s[i].toNat-48)<10 ^ (i+1):=(by rw[Nat.pow_succ];omega);go_wp21;go_roundg (gk-1)
   case measure=>omega
   case rel=>exact⟨i+1,x*10+(s[i].toNat-48),by go_num,by go_num,rfl,oM,m,g⟩
  ·have e:i=s.size:=oM;subst e;have k:¬(s.size:Int)<(s.size:Int):=oM;have R:(x:Int)=v:=by
    show _=_;rw[h.fold,uh b,show List.take s.size s.data.toList=s.data.toList from List.take_of_length_le (znL _)]
   go_wp21;go_ret;exact⟨by rw[<-R];rfl,rfl⟩
end
end
end Go.Proofs.YtckhafpejefbbaaGreatDoor
