import Derived.Deep.CutRange
import Derived.Test.YtckhafpejefbbaaGreatDoorB32
import Derived.Test.YtckhafpejefbbaaGreatDoorB33

set_option maxRecDepth 100000
set_option maxHeartbeats 16000000
namespace Go.Proofs.YtckhafpejefbbaaGreatDoor
section
open Tw Tw.Rf Go.Proofs.Tryz
open Go.RowKit
def cpV:Option Nat->Value
 |none=>.int .i64 (-1)
 |some c=>.int .i64 c
section
variable {w w':World}{B bs bt:Nat}{l:List Tw.Rf.RC}{bad:Bool}{env:List Bnd}{lv lv' ev sv:Value}
variable{e:TypeId}{v:Value}{xs:List Value}
theorem RowV.blk{B:Nat}(h:RowV w B e v xs){g:Nat}(a:v.ownBlock=some g):∃c,w.heap[g]?=some (.cells c e (0,0)):=by
 rcases h.2 with⟨b,_⟩|⟨j,f,i,b,_,d,_⟩
 ·rw[b]at a;simp[Value.ownBlock]at a
 ·rw[b]at a;simp[Value.ownBlock]at a;subst a;exact⟨_,d⟩
theorem RowV.sf{Br:Nat}(j:RowV w Br e v xs)(h:ST w B bs bt l bad env lv ev sv)(m:StS.contains e=false){x:Option Nat}(f:SF bs x lv lv' w w')(n:∀g,v.ownBlock=some g->some g≠x):RowV w' Br e v xs:=
 j.kept λg i=>by
  obtain⟨c,d⟩:=j.blk i;have k:¬(g=bs\/some g=lv.ownBlock):=λe=>by
   obtain⟨_,o,p,a,b⟩:=h.blocks e;rw[d]at a;cases a;rw[m]at b;cases b
  exact f.block (zgE.1 d).1 (λe=>k (.inl e)) (λe=>k (.inr e)) (n g i)
theorem ST.keptNe(h:ST w B bs bt l bad env lv ev sv){nb:Nat}{c:Array Value}(q:w.heap[nb]?=some (.cells c 281 (0,0)))(r:lv.ownBlock≠some nb)(j:w.grownBy w' (some nb)):ST w' B bs bt l bad env lv ev sv:=by
 have k:∀(g:Nat) {d:TypeId} (c:Array Value),d≠281->w.heap[g]?=some (Obj.cells c d (0,0))->w'.heap[g]?=some (Obj.cells c d (0,0)):=λg _ c t a=>(j.block _ (zgE.1 a).1 (λe=>by cases e;rw[q]at a;cases a;exact t rfl)).trans a;obtain⟨seen,s⟩:=h.seen;refine{h with store:=k _ _ dZ h.store,types:=⟨h.types.1,?_⟩,envs:=Ag h.envs λg c a=>k g c dZ a,seen:=⟨seen,Ag s λg c a=>k g c dZ a⟩};rcases h.types.2 with b|⟨i,o,p,b,m,f,n⟩
 ·exact .inl b
 ·exact .inr ⟨i,o,p,b,m,(j.block i (zgE.1 f).1 (λe=>by cases e;exact r (by rw[b];rfl))).trans f,n⟩
end
variable{bs nb:Nat}{x:Option Nat}{lv lv':Value}{w w':World}
theorem SF.zfq{j:Nat}(f:SF bs x lv lv' w w')(h:w.heap.size<=nb)(u:Value):SF bs x lv lv' w (w'.setCell (aD nb j) u):=
 {f with size:=by have:=f.size;simpa using this,block:=λ{k} a b c d=>(aA w' (aD nb j) k u (by simp;omega)).trans (f.block a b c d)}
theorem SF.ne(f:SF bs x lv lv' w w')(h:lv.ownBlock≠some nb)(a:nb<w.heap.size):lv'.ownBlock≠some nb:=λe=>(f.next e).elim h (λe=>oM)
theorem Wv(w:World)(nb j:Nat)(u:Value):w.grownBy (w.setCell (aD nb j) u) (some nb):=⟨rfl,rfl,rfl,sM,λk _ a=>aA w (aD nb j) k u (by rintro rfl;exact a rfl)⟩
section
variable {B bs bt Bm Bc:Nat}{bad:Bool}{env:List Bnd}{ev sv mv cv:Value}{mk:List Bool}
def AnC(B bs bt Bm Bc:Nat)(bad:Bool)(env:List Bnd)(ev sv mv cv:Value)(mk:List Bool)(k:Nat)(l:List RC)(cp:List (Option Nat))(r:Nat×List RC×List (Option Nat)):Prop:=
 ∀(w:World) (lv:Value),ST w B bs bt l bad env lv ev sv->RowV w Bm 4 mv (mk.map Value.bool)->RowV w Bc 3 cv (cp.map cpV)->Calls prog 197 #[.pointer (some ⟨bs,0,none⟩),.int .i64 k,mv,cv] w λe w'=>e=.returned (.int .i64 r.1)/\∃lv',SF bs cv.ownBlock lv lv' w w'/\ST w' B bs bt r.2.1 bad env lv' ev sv/\RowV w' Bc 3 cv (r.2.2.map cpV)
theorem zl1(hsep:∀g,cv.ownBlock=some g->sv.ownBlock≠some g):∀(n k:Nat) (l:List RC) (cp:List (Option Nat)) (r:Nat×List RC×List (Option Nat)),Hr n mk k l cp=some r->r.2.1.length<=5000000->AnC B bs bt Bm Bc bad env ev sv mv cv mk k l cp r:=by
 intro n
 induction n with
 |zero=>intro k l cp r h;simp[Hr]at h
 |succ n ih=>
  intro k l cp r hf hlen w lv h hm hc;have IH:=bV ih;clear ih;have hle:=(Ho hf).1;rw[Hr]at hf;obtain⟨x,hx,hf⟩:=zbE.1 hf;have hfew:=h.few;have H:=bV h;have HM:=bV hm;have HC:=bV hc;have HX:=bV hx;have HF:=bV hf;have HSEP:=bV hsep;obtain⟨pm,cm,rfl⟩:=hm.slice;obtain⟨pc,cc,rfl⟩:=hc.slice;have cT:prog.cellsOf 281=4:=kR;obtain⟨zm,hzm⟩:∃zm,(mk.map Value.bool).length=zm:=⟨_,rfl⟩;obtain⟨zc,hzc⟩:∃zc,(cp.map cpV).length=zc:=⟨_,rfl⟩;rw[hzm]at HM IH ⊢;rw[hzc]at HC HSEP IH ⊢;obtain⟨R,hR⟩:∃R,r.2.2.map cpV=R:=⟨_,rfl⟩;obtain⟨Lr,hLr⟩:∃Lr,r.2.1=Lr:=⟨_,rfl⟩;rw[hR,hLr];have HR:=bV hR;have HLR:=bV hLr;clear hR hLr;have HZM:=bV hzm;have HZC:=bV hzc;clear h hm hc hx hf hzm hzc hsep
  go_in;go_wp2_with fail;refine(Rc H.o HX.o).mono ?_;rintro e1 w1 ⟨rfl,hg⟩;have S1:=bV (H.o.grown hg);have M1:=bV (HM.o.grown hg);have C1:=bV (HC.o.grown hg);have F1:=bV (SF.of_grown (bs:=bs) (x:=(Value.slice pc zc cc).ownBlock) (lv:=lv) hg);clear hg H HM HC;have hxlt:=(Ia HX.o).lt.2;by_cases hmk:isMk mk x=true
  ·have hf:=HF.o;rw[mA hmk]at hf;cases hf;have hq:mk[x]?=some true:=Km.1 hmk;obtain⟨gm,rfl,-,m0,-,-,-⟩:=M1.o.at' (k:=x) (u:=.bool true) (by rw[sD,hq];rfl);have hxm:(x:Int)<(zm:Int):=(by have:=(zlE.1 hq).1;rw[<-HZM.o,uD];omega);clear hmk hq;go_wp2_with fail;go_ret;exact⟨rfl,lv,F1.o,by rw[<-HLR.o];exact S1.o,by rw[<-HR.o];exact C1.o⟩
  have hf:=HF.o;rw[jA hmk]at hf;obtain⟨o,ho,hf⟩:=zbE.1 hf;have hmw:(∃gm,pm=some (aD gm 0)/\(x:Int)<(zm:Int)/\w1.cell? (aD gm x)=some (.bool false))\/¬(x:Int)<(zm:Int):=by
   rcases yB x mk.length with hl|hl
   ·have hq:mk[x]?=some false:=by
     cases hb:mk[x]? with
     |none=>have:=List.getElem?_eq_none_iff.1 hb;omega
     |some b=>cases b with
      |false=>rfl
      |true=>exact absurd (Km.2 hb) hmk
    obtain⟨gm,e1,-,m0,-,-,-⟩:=M1.o.at' (k:=x) (u:=.bool false) (by rw[sD,hq];rfl);exact .inl ⟨gm,e1,by rw[<-HZM.o,uD];omega,m0⟩
   ·exact .inr (by rw[<-HZM.o,uD];omega)
  obtain⟨gc,rfl,-,k0,kf,-,hgc⟩:=C1.o.at' (k:=x) (u:=cpV o) (by rw[sD,ho];rfl);have hxc:(x:Int)<(zc:Int):=by have:=(zlE.1 ho).1;rw[<-HZC.o,uD];omega
  have HF2:=bV hf;have HO:=bV ho;clear hf ho HF hmk;go_upto_region 2 with fail;go_cut [23]from 14 to 22 (λb wc=>b=.bool false/\wc=w1)
  case first=>
   rcases hmw with⟨gm,rfl,hxm,m0⟩|hxm
   all_goals
    go_wp2_with fail;go_meet;exact⟨rfl,rfl⟩
  obtain⟨rfl,rfl⟩:=hcut;clear hmw;cases o with
  |some c=>
   have hf:=HF2.o;cases hf;have k1:wc.cell? (aD gc x)=some (vI c):=k0;have hc0:(0:Int)<=(c:Int):=oM;clear k0;go_wp2_with fail;go_ret;exact⟨rfl,lv,F1.o,by rw[<-HLR.o];exact S1.o,by rw[<-HR.o];exact C1.o⟩
  |none=>
  have k1:wc.cell? (aD gc x)=some (vI (-1)):=k0;have hf:=HF2.o;dsimp only at hf;obtain⟨t,ht,hf⟩:=zbE.1 hf;have hl1:l.length+1<=r.2.1.length:=by
   have hf':=hf;split at hf'
   ·cases hf';simp
   ·split at hf'
    ·obtain⟨a,ha,hf'⟩:=zbE.1 hf';obtain⟨b,hb,hf'⟩:=zbE.1 hf';have h1:=(Ho ha).1;have h2:=(Ho hb).1;cases hf';simp at h1 ⊢;omega
    ·cases hf';simp
  have HT:=bV ht;have HF3:=bV hf;obtain⟨_,c1,_,_,_⟩:=S1.o.cells;obtain⟨g,capl,e,d0,d1,d2,d3,_⟩:=S1.o.type ht;subst e;have hxt:(x:Int)<(l.length:Int):=oM;obtain⟨so,hso⟩:∃so:Int,(t.sort:Int)=so:=⟨_,rfl⟩;rw[hso]at d0;have HSO:=bV hso;have hgw:g<wc.heap.size:=(S1.o.types.lt g rfl).2;clear hf ht hso HF2 k0;go_upto_region 7 with fail;have g2:=zwA wc (.cells #[vU so,vI t.a,vI t.b,vI t.foI] 281) none;have n2:=Ac wc (.cells #[vU so,vI t.a,vI t.b,vI t.foI] 281);have z2:(wc.alloc (.cells #[vU so,vI t.a,vI t.b,vI t.foI] 281)).heap.size=wc.heap.size+1:=sM;obtain⟨w2,hw2⟩:∃w2,wc.alloc (.cells #[vU so,vI t.a,vI t.b,vI t.foI] 281)=w2:=⟨_,rfl⟩;obtain⟨nb,hnb⟩:∃nb,wc.heap.size=nb:=⟨_,rfl⟩;rw[hw2]at g2 n2 z2;rw[hw2,hnb];rw[hnb]at n2 z2 hgc hgw;have hnw:w.heap.size<=nb:=by rw[<-hnb];exact F1.o.size
  have S2:=bV (S1.o.grown g2);have M2:=bV (M1.o.grown g2);have C2:=bV (C1.o.grown g2);have F2:=bV (F1.o.trans (SF.of_grown g2));have N2:=bV n2;have hbs2:bs<nb:=by rw[<-hnb];exact(zgE.1 S1.o.store).1
  clear hw2 hnb g2 n2 c1 d0 d1 d2 d3 S1 M1 C1 F1 k1 kf;go_wp2_with fail;refine(Mq S2.o oM).mono ?_;rintro e2 w3 ⟨rfl,lv3,hsf,hs3⟩;have C3:=C2.o.sf S2.o dZ hsf (λg hg e=>by cases e);have M3:=M2.o.sf S2.o dZ hsf (λg hg e=>by cases e);have hn3:lv3.ownBlock≠some nb:=hsf.ne (by simp[Value.ownBlock];omega) oM;have N3:=(hsf.block (k:=nb) oM oM (by simp[Value.ownBlock];omega) sM).trans N2.o;have hz3:=hsf.size;obtain⟨C4,G4⟩:=C3.set (k:=x) rfl (vI l.length);have e4:(cp.map cpV).set x (vI l.length)=(cp.set x (some l.length)).map cpV:=by rw[List.map_set];rfl
  rw[e4]at C4;have S4:=hs3.beside C3 ⟨dZ,dZ,dZ⟩ (λ_=>HSEP.o) G4;have M4:=M3.kept λg hg=>by
   obtain⟨c,hc⟩:=M3.blk hg;exact G4.block g (zgE.1 hc).1 (C3.ne dZ hc)
  have N4:=(G4.block nb oM (by simp[Value.ownBlock];omega)).trans N3;have F4:=(F2.o.trans hsf.more).trans (SF.znw G4);obtain⟨_,e3,-,k3,kf3,-,-⟩:=C3.at' (k:=x) (u:=cpV none) (by rw[sD,HO.o];rfl);cases e3;have z4:=G4.size;clear hsf hs3 C3 M3 G4 e4 S2 M2 C2 F2 N2 N3;go_upto_region 9 with fail;obtain⟨w4,hw4⟩:∃w4,w3.setCell (aD gc x) (vI l.length)=w4:=⟨_,rfl⟩;rw[hw4]at C4 S4 M4 N4 F4 z4;rw[hw4];have C4:=bV C4;have S4:=bV S4;have M4:=bV M4;have F4:=bV F4;have u0:w4.cell? (aD nb 0)=some (vU so):=zcR N4;have u1:w4.cell? (aD nb 1)=some (vI t.a):=zcR N4;have N4:=bV N4;clear hw4 k3 kf3;by_cases hv:so=118
  ·have hf:=HF3.o;rw[mA (by have:=HSO.o;omega)]at hf;cases hf;subst hv;go_wp2_with fail;go_ret;exact⟨rfl,lv3,F4.o,by rw[<-HLR.o];exact S4.o,by rw[<-HR.o];exact C4.o⟩
  have hf:=HF3.o;rw[jA (by have:=HSO.o;omega)]at hf;have HF4:=bV hf;clear hf HF3;have hnbw:nb<w4.heap.size:=oM;have hb0:(so==118)=false:=by simp[hv]
  have hlw:lv3.ownBlock≠some nb:=hn3;by_cases hcm:so=62\/so=42
  case' pos=>
   have hf:=HF4.o;rw[mA (by have:=HSO.o;omega)]at hf;obtain⟨a,ha,hf⟩:=zbE.1 hf;obtain⟨b,hb,hf⟩:=zbE.1 hf;have h1:=(Ho ha).1;have h2:=(Ho hb).1;cases hf;simp at h1 hlen;have HA:=bV (IH.o _ _ _ _ ha oM);have HB:=bV (IH.o _ _ _ _ hb hlen);have hli:l.length<b.2.1.length:=oM;clear ha hb h1 h2 HF4;have hbw:(so==62)=true\/((so==62)=false/\(so==42)=true):=(by rcases hcm with rfl|rfl<;>simp);clear hcm;rcases hbw with hb1|⟨hb1,hb2⟩
   all_goals
    go_upto_region 12 with fail;go_wp2_with fail;refine(HA.o _ _ S4.o M4.o C4.o).mono ?_;rintro e5 w5 ⟨rfl,lv5,hsf5,hs5,hc5⟩;have M5:=M4.o.sf S4.o dZ hsf5 (λg hg e=>by
     obtain⟨c,hc⟩:=M4.o.blk hg;exact C4.o.ne dZ hc e)
    have N5:=(hsf5.block hnbw oM (λe=>hn3 e.symm) (by simp[Value.ownBlock];omega)).trans N4.o;have hn5:=hsf5.ne hn3 hnbw;have hz5:=hsf5.size;have F6:=(F4.o.trans hsf5).zfq (j:=1) hnw (vI a.1);have G6:=Wv w5 nb 1 (vI a.1);have S6:=hs5.keptNe N5 hn5 G6;have C6:=hc5.kept λg hg=>by
     obtain⟨c,hc⟩:=hc5.blk hg;exact G6.block g (zgE.1 hc).1 (by rintro e;cases e;rw[N5]at hc;cases hc)
    have M6:=M5.kept λg hg=>by
     obtain⟨c,hc⟩:=M5.blk hg;exact G6.block g (zgE.1 hc).1 (by rintro e;cases e;rw[N5]at hc;cases hc)
    have N6:=Bo (j:=1) N5 (vI a.1);have x1:w5.cell? (aD nb 1)=some (vI t.a):=zcR N5;have y1:w5.frozen? (aD nb 1)=false:=eB _ _ _ _ _ N5;clear hsf5 hs5 hc5 M5 N5 G6 S4 M4 C4 F4 N4 u0 u1 HA;go_upto_region 13 with fail;obtain⟨w6,hw6⟩:∃w6,w5.setCell (aD nb 1) (vI a.1)=w6:=⟨_,rfl⟩;rw[hw6]at F6 S6 C6 M6 N6;rw[hw6];have hz6:w6.heap.size=w5.heap.size:=(by rw[<-hw6];simp);have F6:=bV F6;have S6:=bV S6;have C6:=bV C6;have M6:=bV M6;have x2:w6.cell? (aD nb 2)=some (vI t.b):=zcR N6;have N6:=bV N6;clear hw6 x1 y1;go_wp2_with fail;refine(HB.o _ _ S6.o M6.o C6.o).mono ?_;rintro e7 w7 ⟨rfl,lv7,hsf7,hs7,hc7⟩;have N7:=(hsf7.block (k:=nb) oM oM (λe=>hn5 e.symm) (by simp[Value.ownBlock];omega)).trans N6.o;have hn7:=hsf7.ne hn5 oM;have F8:=(F6.o.trans hsf7).zfq (j:=2) hnw (vI b.1);have G8:=Wv w7 nb 2 (vI b.1);have S8:=hs7.keptNe N7 hn7 G8;have C8:=hc7.kept λg hg=>by
     obtain⟨c,hc⟩:=hc7.blk hg;exact G8.block g (zgE.1 hc).1 (by rintro e;cases e;rw[N7]at hc;cases hc)
    have N8:=Bo (j:=2) N7 (vI b.1);have x1:w7.cell? (aD nb 2)=some (vI t.b):=zcR N7;have y1:w7.frozen? (aD nb 2)=false:=eB _ _ _ _ _ N7;clear hsf7 hs7 hc7 N7 G8 S6 M6 C6 F6 N6 x2 HB;go_upto_region 14 with fail;obtain⟨wz,hwz⟩:∃wz,w7.setCell (aD nb 2) (vI b.1)=wz:=⟨_,rfl⟩;rw[hwz]at F8 S8 C8 N8;rw[hwz];have SZ:=bV S8;have CZ:=bV C8;have FZ:=bV F8;have ZZ:∃(Lz:List RC) (Az Bz:Nat) (lvz:Value) (cz:List (Option Nat)),Hid (ST wz B bs bt Lz bad env lvz ev sv)/\Hid (RowV wz Bc 3 (sL gc zc cc) (cz.map cpV))/\Hid (SF bs (sL gc zc cc).ownBlock (sL g l.length capl) lvz w wz)/\wz.cell? (aD nb 0)=some (vU so)/\wz.cell? (aD nb 1)=some (vI Az)/\wz.cell? (aD nb 2)=some (vI Bz)/\lvz.ownBlock≠some nb/\l.length<Lz.length/\Hid (Lz.set l.length ⟨t.sort,Az,Bz,none⟩=Lr)/\Hid (cz.map cpV=R):=
     ⟨b.2.1,a.1,b.1,lv7,b.2.2,SZ,CZ,FZ,zcR N8,zcR N8,zcR N8,hn7,hli,HLR,HR⟩
    clear hwz x1 y1 F8 S8 C8 N8 SZ CZ FZ HLR HR hn7 hn5 hli
  case' neg=>
   have hf:=HF4.o;rw[jA (by have:=HSO.o;omega)]at hf;cases hf;have hc1:¬so=62:=λe=>hcm (.inl e);have hc2:¬so=42:=λe=>hcm (.inr e);have hb1:(so==62)=false:=(by simp[hc1]);have hb2:(so==42)=false:=(by simp[hc2]);clear hcm HF4;obtain⟨wz,rfl⟩:∃wz,wz=w4:=⟨_,rfl⟩;have ZZ:∃(Lz:List RC) (Az Bz:Nat) (lvz:Value) (cz:List (Option Nat)),Hid (ST wz B bs bt Lz bad env lvz ev sv)/\Hid (RowV wz Bc 3 (sL gc zc cc) (cz.map cpV))/\Hid (SF bs (sL gc zc cc).ownBlock (sL g l.length capl) lvz w wz)/\wz.cell? (aD nb 0)=some (vU so)/\wz.cell? (aD nb 1)=some (vI Az)/\wz.cell? (aD nb 2)=some (vI Bz)/\lvz.ownBlock≠some nb/\l.length<Lz.length/\Hid (Lz.set l.length ⟨t.sort,Az,Bz,none⟩=Lr)/\Hid (cz.map cpV=R):=
    ⟨l++[⟨118,0,0,none⟩],t.a,t.b,lv3,cp.set x (some l.length),S4,C4,F4,u0,u1,zcR N4.o,hn3,sM,HLR,HR⟩
   have ZZ:=bV ZZ;clear S4 C4 F4 u1 N4 HLR HR M4;go_upto_region 14 with fail;have ZZ:=ZZ.o;clear u0
  all_goals
   obtain⟨Lz,Az,Bz,lvz,cz,SZ,CZ,FZ,q0,q1,q2,hnz,hli,HLZ,HRZ⟩:=ZZ;have SD:=SZ.o.grown (Ad (Aa wz));have hel:=fA hli;obtain⟨gz,capz,e,f0,f1,f2,f3,ff⟩:=SD.type hel;subst e;obtain⟨_,c1,_,_,_⟩:=SD.cells;have hgn:gz≠nb:=λe=>hnz (by rw[<-e];rfl);have hgb:gz≠bs:=λe=>by
    rcases SD.types.2 with⟨e1,_⟩|⟨g',cap',cur,e1,_,h2,_⟩
    ·cases e1
    ·cases e1;rw[e,SD.store]at h2;cases h2
   have ff0:=ff (l.length*4);have ff1:=ff (l.length*4+1);have ff2:=ff (l.length*4+2);have ff3:=ff (l.length*4+3);obtain⟨S9,G9⟩:=SD.setAll hel rfl (y:=⟨t.sort,Az,Bz,none⟩) (v0:=vU so) (v1:=vI Az) (v2:=vI Bz) (v3:=vI (-1)) (by rw[<-HSO.o];rfl);have C9:=CZ.o.sf SZ.o dZ (SF.zly (bs:=bs) (x:=none) (lv:=sL gz Lz.length capz) (Av (Ay (Ad (Aa wz))) G9)) (λg hg e=>by cases e);have F9:=FZ.o.trans (SF.zly (Av (Ay (Ad (Aa wz))) G9));have S9:=bV S9;have C9:=bV C9;have F9:=bV F9;have hli2:(l.length:Int)<(Lz.length:Int):=oM;have hfz:=SD.few;have hmx:prog.follows .mixedOrders=true:=kR;clear ff hnz hel SD G9 SZ CZ FZ;refine Er (λW=>W.cell? (aD bs 1)=some (sL gz Lz.length capz)/\W.cell? (aD nb 0)=some (vU so)/\W.cell? (aD nb 1)=some (vI Az)/\W.cell? (aD nb 2)=some (vI Bz)) hmx ⟨c1,q0,q1,q2⟩ ?_;intro hSd;obtain⟨wd,hwd⟩:∃wd,wz.drew=wd:=⟨_,rfl⟩;rw[hwd]at hSd S9 C9 F9 f0 f1 f2 f3 ff0 ff1 ff2 ff3;rw[hwd];obtain⟨s0,s1,s2,s3⟩:=hSd;have hSd:=(⟨s0,s1,s2,s3⟩:wd.cell? (aD bs 1)=some (sL gz Lz.length capz)/\wd.cell? (aD nb 0)=some (vU so)/\wd.cell? (aD nb 1)=some (vI Az)/\wd.cell? (aD nb 2)=some (vI Bz));clear hwd q0 q1 q2 c1 s0 s1 s2 s3;refine tkH 0 (v:=pT bs) rfl (λW ⟨e0,e1,e2,e3⟩=>by go_simp) hSd ?_;simp only[Act.put];refine tkH 1 (v:=pT bs) rfl (λW ⟨e0,e1,e2,e3⟩=>by go_simp) hSd ?_;simp only[Act.put];refine tkH 2 (v:=.pointer (some (aD bs 1))) rfl (λW ⟨e0,e1,e2,e3⟩=>by go_simp) hSd ?_;simp only[Act.put];refine tkH 3 (v:=sL gz Lz.length capz) rfl (λW ⟨e0,e1,e2,e3⟩=>by go_simp) hSd ?_;simp only[Act.put];refine tkH 4 (v:=vI l.length) rfl (λW ⟨e0,e1,e2,e3⟩=>by go_simp) hSd ?_;simp only[Act.put];refine tkH 5 (v:=pT nb) rfl (λW ⟨e0,e1,e2,e3⟩=>by go_simp) hSd ?_;simp only[Act.put];refine tkH 6 (v:=vU so) rfl (λW ⟨e0,e1,e2,e3⟩=>by go_simp) hSd ?_;simp only[Act.put];refine tkH 7 (v:=.pointer (some (aD nb 1))) rfl (λW ⟨e0,e1,e2,e3⟩=>by go_simp) hSd ?_;simp only[Act.put];refine tkH 8 (v:=vI Az) rfl (λW ⟨e0,e1,e2,e3⟩=>by go_simp) hSd ?_;simp only[Act.put];refine tkH 9 (v:=.pointer (some (aD nb 2))) rfl (λW ⟨e0,e1,e2,e3⟩=>by go_simp) hSd ?_;simp only[Act.put];refine tkH 10 (v:=vI Bz) rfl (λW ⟨e0,e1,e2,e3⟩=>by go_simp) hSd ?_;simp only[Act.put];refine tkH 11 (v:=.agg #[vU so,vI Az,vI Bz,vI (-1)]) rfl (λW ⟨e0,e1,e2,e3⟩=>by go_simp) hSd ?_;simp only[Act.put];refine tkH 12 (v:=.pointer (some ⟨gz,l.length*4,none⟩)) rfl (λW ⟨e0,e1,e2,e3⟩=>by go_simp) hSd ?_;simp only[Act.put];refine gE (rs:=[13]) kR sM ?_;refine yA rfl (λK hK=>?_) zA;go_simp;have keep:∀ {a:Addr} {v:Value},wd.cell? a=some v->a.block≠gz->((((wd.setCell ⟨gz,l.length*4,none⟩ (vU so)).setCell ⟨gz,l.length*4+1,none⟩ (vI Az)).setCell ⟨gz,l.length*4+2,none⟩ (vI Bz)).setCell ⟨gz,l.length*4+3,none⟩ (vI (-1))).cell? a=some v:=λ{a v} h hn=>(vD ((aA _ ⟨gz,l.length*4+3,none⟩ a.block _ hn).trans ((aA _ ⟨gz,l.length*4+2,none⟩ a.block _ hn).trans ((aA _ ⟨gz,l.length*4+1,none⟩ a.block _ hn).trans (aA _ ⟨gz,l.length*4,none⟩ a.block _ hn))))).trans h;refine hK.out _ _ ⟨keep hSd.1 (λe=>hgb e.symm),keep hSd.2.1 (λe=>hgn e.symm),keep hSd.2.2.1 (λe=>hgn e.symm),keep hSd.2.2.2 (λe=>hgn e.symm)⟩ (λ_=>?_);clear hK K keep hSd;refine iE kR ⟨rfl,?_⟩ _;go_wp2_with fail;go_ret;exact⟨rfl,_,F9.o,by rw[<-HLZ.o];exact S9.o,by rw[<-HRZ.o];exact C9.o⟩
end
end
section
abbrev jE:=@World.news_of_block
end
section
open Tw Tw.Rf Go.Proofs.Tryz
open Go.RowKit
def FdAt(w:World)(B:Nat)(v:Value)(ks:List Nat):Prop:=w.ownsRow B 3 1 v ks.length (ks.reverse.map λf:Nat=>Value.int .i64 f)
section
variable {w:World}{B bs bt:Nat}{l:List Tw.Rf.RC}{bad:Bool}{env:List Bnd}{lv ev sv:Value}
theorem zl2(h:ST w B bs bt l bad env lv ev sv){n k:Nat}{mv:Value}{Bm:Nat}{mk mk':List Bool}(hm:RowV w Bm 4 mv (mk.map Value.bool))(hml:mk.length=l.length)(hf:freeS n l [k] mk=some mk'):
  Calls prog 196 #[pT bs,vI k,mv] w λe w'=>e=.returned (.tuple #[])/\w.grownBy w' mv.ownBlock/\RowV w' Bm 4 mv (mk'.map Value.bool):=by
 have hfew:=h.few;have H:=bV h;have HF:=bV hf;have HM:=bV hm;obtain⟨pm,cm,rfl⟩:=hm.slice;rw[uD]at *;have hun:Kv mk<=5000000:=kB List.countP_le_length oM;have cT:prog.cellsOf 281=4:=kR;have hii:(prog.info? 3).map (λi=>(i.zero,i.size,i.bytes))=some (some (vI 0),1,8):=kR;obtain⟨i0,hi,hz0,hz1,hz2⟩:=info_parts hii;have HML:=bV hml;clear h hf hm hml
 go_in;go_wp2_with fail;have g0:=zwA w (.cells #[vI k] 3) none;have n0:=Ac w (.cells #[vI k] 3);obtain⟨w0,hw0⟩:∃w0,w.alloc (.cells #[vI k] 3)=w0:=⟨_,rfl⟩;rw[hw0]at g0 n0;rw[hw0];have D0:Hid (FdAt w0 w.heap.size (sL w.heap.size 1 1) [k]):=bV ⟨sM,.inr ⟨w.heap.size,1,_,rfl,znL _,n0,znL _,by unfold maxLen;omega,rfl,rfl⟩⟩;have H0:=bV (H.o.grown g0);have M0:=bV (HM.o.grown g0);have K0:=bV (Ay (o:=(Value.slice pm mk.length cm).ownBlock) g0);clear g0 n0 hw0;go_loopg[6] n (λj tv wr=>∃(ks:List Nat) (mc:List Bool) (gt cap:Nat),tv=sL gt ks.length cap/\Hid (FdAt wr w.heap.size (sL gt ks.length cap) ks)/\Hid (ST wr B bs bt l bad env lv ev sv)/\Hid (RowV wr Bm 4 (.slice pm mk.length cm) (mc.map Value.bool))/\Hid (w.grownBy wr (Value.slice pm mk.length cm).ownBlock)/\2*Kv mc+ks.length<=10000001/\Hid (freeS j l ks mc=some mk'))
 case atStart=>exact⟨[k],mk,w.heap.size,1,rfl,D0,H0,M0,K0,by simp;omega,HF⟩
 case round=>
  obtain⟨ks,mc,gt,cap,rfl,D,S,M,K,hro,HS⟩:=hrel;cases gk with
  |zero=>exact absurd HS.o (by simp[freeS])
  |succ m=>
   cases ks with
   |nil=>
    have hs:=HS.o;simp only[freeS,zsI]at hs;subst hs;have hz:(([]:List Nat).length:Int)=0:=rfl;go_wp2_with fail;go_end0;exact⟨rfl,K.o,M.o⟩
   |cons q rest=>
    have hs:=HS.o;rw[freeS]at hs;obtain⟨x,hx,hs⟩:=zbE.1 hs;obtain⟨b,hb,hs⟩:=zbE.1 hs;have HX:=bV hx;have HB:=bV (show(mc.map Value.bool)[x]?=some (.bool b) by rw[sD,hb];rfl);have HUB:=bV hb;have HS2:=bV hs;have t0:wr.cell? ⟨gt,rest.length,none⟩=some (vI q):=by
     have:=D.o.cellAt rest.length sM;rw[List.reverse_cons,vB,fB sM]at this;simpa using this
    have D1:Hid (FdAt wr w.heap.size (sL gt rest.length cap) rest):=by
     have:=zcg (k:=rest.length) D.o sM;rw[List.reverse_cons,vB,List.take_left' sM]at this;exact bV this
    have hcap:rest.length+1<=cap:=by
     rcases D.o.2 with⟨e1,_⟩|⟨g',cap',cur,e1,_,_,a3,_⟩
     ·cases e1
     ·cases e1;simpa using a3
    simp only[zB]at hro;rw[zB];clear hx hb hs HS D;go_wp2_with fail;refine(Rc S.o HX.o).mono ?_;rintro e1 w2 ⟨rfl,hg⟩;have S2:=bV (S.o.grown hg);have M2:=bV (M.o.grown hg);have K2:=bV (Av K.o (Ay hg));have D2:=bV (A6 D1.o hg);clear hg S M K D1 t0;obtain⟨gm,rfl,hmn,m0,mf,_,hgm⟩:=M2.o.at' HB.o;have hxl:=(zlE.1 HUB.o).1;rw[uD]at hmn;have hxm:(x:Int)<(mk.length:Int):=oM;have HMN:=bV hmn;clear hmn;cases b with
    |true=>
     have hs:=HS2.o;rw[mA rfl]at hs;have HS3:=bV hs;clear hs HS2;go_wp2_with fail;go_roundg m
     case measure=>omega
     case rel=>exact⟨rest,mc,gt,cap,rfl,D2,S2,M2,K2,oM,HS3⟩
    |false=>
     have hs:=HS2.o;rw[jA sM]at hs;obtain⟨c,hc,hs⟩:=zbE.1 hs;have HC:=bV hc;have HS3:=bV hs;clear hc hs HS2;obtain⟨M3,G3⟩:=M2.o.set (k:=x) rfl (.bool true);rw[<-List.map_set]at M3;have S3:=S2.o.beside M2.o ⟨dZ,dZ,dZ⟩ (λe=>absurd e dZ) G3;have D3:=Ag D2.o λg c hc=>(G3.block g (zgE.1 hc).1 (M2.o.ne dZ hc)).trans hc;have K3:=bV (Av K2.o G3);clear G3;go_upto_region 6 with fail;obtain⟨w3,hw3⟩:∃w3,w2.setCell (aD gm x) (.bool true)=w3:=⟨_,rfl⟩;rw[hw3]at M3 S3 D3 K3;rw[hw3];have M3:=bV M3;have S3:=bV S3;have D3:=bV D3;have hun:=Sf HUB.o;clear hw3 m0 mf hgm M2 S2 D2 K2 HB;obtain⟨_,c1,_,_,_⟩:=S3.o.cells;obtain⟨g,capl,e,d0,d1,d2,d3,_⟩:=S3.o.type HC.o;subst e;have hlow:bs<w.heap.size/\g<w.heap.size:=⟨(zgE.1 H.o.store).1,(H.o.types.lt g rfl).2⟩;have hxl2:(x:Int)<(l.length:Int):=(by have:=(zlE.1 HC.o).1;omega);by_cases hcm:c.sort=62\/c.sort=42
     ·have hs:=HS3.o;rw[mA hcm]at hs;have HS4:=bV hs;have HSZ:=bV (S3.o.few);have hz3:w.heap.size<=w3.heap.size:=K3.o.size;obtain⟨so,hso⟩:∃so:Int,(c.sort:Int)=so:=⟨_,rfl⟩;rw[hso]at d0;have hsw:so=62\/so=42:=oM;have hmx:prog.follows .mixedOrders=true:=kR;clear hs HS3 hso hcm d3;rcases hsw with rfl|rfl
      all_goals
       go_upto_region 7 with fail;clear d0;refine Er (λW=>W.cell? (aD bs 1)=some (sL g l.length capl)/\W.cell? (aD g (x*4+1))=some (vI c.a)/\W.cell? (aD g (x*4+2))=some (vI c.b)) hmx ⟨c1,d1,d2⟩ ?_;intro hSd;have GD:w3.grownBy w3.drew none:=Ad (Aa w3);obtain⟨wd,hwd⟩:∃wd,w3.drew=wd:=⟨_,rfl⟩;rw[hwd]at hSd GD;rw[hwd];obtain⟨c1',d1',d2'⟩:=hSd;have hSd:=(⟨c1',d1',d2'⟩:wd.cell? (aD bs 1)=some (sL g l.length capl)/\wd.cell? (aD g (x*4+1))=some (vI c.a)/\wd.cell? (aD g (x*4+2))=some (vI c.b));clear hwd c1 d1 d2;refine tkH 0 (v:=sL gt rest.length cap) rfl (λW ⟨e1,e2,e3⟩=>by go_simp) hSd ?_;simp only[Act.put];refine tkH 1 (v:=pT bs) rfl (λW ⟨e1,e2,e3⟩=>by go_simp) hSd ?_;simp only[Act.put];refine tkH 2 (v:=pT bs) rfl (λW ⟨e1,e2,e3⟩=>by go_simp) hSd ?_;simp only[Act.put];refine tkH 3 (v:=.pointer (some (aD bs 1))) rfl (λW ⟨e1,e2,e3⟩=>by go_simp) hSd ?_;simp only[Act.put];refine tkH 4 (v:=sL g l.length capl) rfl (λW ⟨e1,e2,e3⟩=>by go_simp) hSd ?_;simp only[Act.put];refine tkH 5 (v:=vI x) rfl (λW ⟨e1,e2,e3⟩=>by go_simp) hSd ?_;simp only[Act.put];refine tkH 6 (v:=.pointer (some (aD g (x*4)))) rfl (λW ⟨e1,e2,e3⟩=>by go_simp) hSd ?_;simp only[Act.put];refine tkH 7 (v:=.pointer (some (aD g (x*4+1)))) rfl (λW ⟨e1,e2,e3⟩=>by go_simp) hSd ?_;simp only[Act.put];refine tkH 8 (v:=vI c.a) rfl (λW ⟨e1,e2,e3⟩=>by go_simp) hSd ?_;simp only[Act.put];refine tkH 9 (v:=pT bs) rfl (λW ⟨e1,e2,e3⟩=>by go_simp) hSd ?_;simp only[Act.put];refine tkH 10 (v:=pT bs) rfl (λW ⟨e1,e2,e3⟩=>by go_simp) hSd ?_;simp only[Act.put];refine tkH 11 (v:=.pointer (some (aD bs 1))) rfl (λW ⟨e1,e2,e3⟩=>by go_simp) hSd ?_;simp only[Act.put];refine tkH 12 (v:=sL g l.length capl) rfl (λW ⟨e1,e2,e3⟩=>by go_simp) hSd ?_;simp only[Act.put];refine tkH 13 (v:=vI x) rfl (λW ⟨e1,e2,e3⟩=>by go_simp) hSd ?_;simp only[Act.put];refine tkH 14 (v:=.pointer (some (aD g (x*4)))) rfl (λW ⟨e1,e2,e3⟩=>by go_simp) hSd ?_;simp only[Act.put];refine tkH 15 (v:=.pointer (some (aD g (x*4+2)))) rfl (λW ⟨e1,e2,e3⟩=>by go_simp) hSd ?_;simp only[Act.put];refine tkH 16 (v:=vI c.b) rfl (λW ⟨e1,e2,e3⟩=>by go_simp) hSd ?_;simp only[Act.put];refine gE (rs:=[17]) kR sM ?_;refine yA rfl (λK hK=>?_) zA;go_simp;have GB:wd.grownBy (wd.alloc (.cells #[vI c.a,vI c.b] 3)) none:=Ai (Aa wd) _;have GA:=Ab GD GB;have NA:(wd.alloc (.cells #[vI c.a,vI c.b] 3)).heap[wd.heap.size]?=some (.cells #[vI c.a,vI c.b] 3):=Ac wd _;refine hK.out _ _ ⟨cell_kept c1' GB sM,cell_kept d1' GB sM,cell_kept d2' GB sM⟩ (λhSd=>?_);clear hK K hSd;have DA:=A6 D3.o GA;have SA:=bV (S3.o.grown GA);have MA:=bV (M3.o.grown GA);have KA:=bV (Av K3.o (Ay GA));obtain⟨hza,hzb⟩:=hlow;have hzk:=K3.o.size;obtain⟨wa,hwa⟩:∃wa,wd.alloc (.cells #[vI c.a,vI c.b] 3)=wa:=⟨_,rfl⟩;rw[hwa]at GA GB NA DA SA MA KA;rw[hwa];have DA:=bV DA;have hwz:=KA.o.size;clear hwa;refine gE (rs:=[18]) kR sM ?_;refine yA rfl (λK hK=>?_) zA;rw[mA (by rfl)];refine wp_append_lies _ _ _ 33 rfl w.heap.size 3 i0 (vI 0) 1 8 underlying33 hi hz0 hz1 hz2 rfl dZ (sL gt rest.length cap) rest.length (rest.reverse.map λf:Nat=>vI f) rfl DA.o (aD wd.heap.size 0) 2 2 [vI c.a,vI c.b] rfl rfl (jE NA) (by intro u hu;simp at hu;rcases hu with rfl|rfl<;>rfl) dZ (by unfold maxLen;omega) oM hwz _ rfl ?_;intro g5 cap5 w5 hown5 hgrow5 _ _;have C5:w5.cell? (aD bs 1)=some (sL g l.length capl)/\w5.cell? (aD g (x*4+1))=some (vI c.a)/\w5.cell? (aD g (x*4+2))=some (vI c.b):=by
        have hgt:=(DA.o.lt gt rfl).1;have k:∀ {a:Addr} {v:Value},wd.cell? a=some v->a.block<w.heap.size->w5.cell? a=some v:=λ{a v} h hb=>(vD ((Hi GB hgrow5).block a.block (aB hb (kB hzk GD.size)) (by simp[Value.ownBlock];omega))).trans h;exact⟨k c1' hza,k d1' hzb,k d2' hzb⟩
       have O5:=bV hown5;have G5:=bV hgrow5;clear hown5 hgrow5;refine hK.out _ _ C5 (λ_=>?_);clear hK K;refine gE (rs:=[19]) kR sM ?_;refine yA rfl (λK hK=>?_) zA;go_simp;refine hK.out _ _ C5 (λ_=>?_);clear hK K C5 c1' d1' d2';refine iE kR ⟨rfl,?_⟩ _;go_wp2_with fail;go_roundg m
       case measure=>omega
       case rel=>
        have hsn:∀q,(sL gt rest.length cap).ownBlock=some q->sv.ownBlock≠some q:=λq hq e=>by
         obtain⟨_,hs⟩:=H.o.seen;have h1:=(hs.lt q e).2;have h2:=(DA.o.lt q hq).1;omega
        have hrw:RowV wa w.heap.size 3 (sL gt rest.length cap) (rest.reverse.map λf:Nat=>vI f):=by
         unfold RowV;rw[uD,List.length_reverse];exact DA.o
        refine⟨c.b::c.a::rest,_,g5,cap5,?_,?_,bV (SA.o.beside hrw ⟨dZ,dZ,dZ⟩ (λ_=>hsn) G5.o),bV (MA.o.kept λq hq=>?_),?_,?_,HS4⟩
        ·simp
        ·have:=O5.o;refine bV ?_;unfold FdAt;rw[zB,zB,List.reverse_cons,List.reverse_cons,wA,vB];exact this
        ·obtain⟨cc,hcc⟩:=MA.o.blk hq;exact G5.o.block q (zgE.1 hcc).1 (hrw.ne dZ hcc)
        ·refine bV ⟨G5.o.os.trans KA.o.os,G5.o.tape.trans KA.o.tape,G5.o.output.trans KA.o.output,kB KA.o.size G5.o.size,λq hq hn=>?_⟩;exact(G5.o.block q (aB hq KA.o.size) (λe=>by have:=(DA.o.lt q e.symm).1;omega)).trans (KA.o.block q hq hn)
        ·simp only[zB];omega
     ·have hs:=HS3.o;rw[jA hcm]at hs;have HS4:=bV hs;have hc1:¬(c.sort:Int)=62:=oM;have hc2:¬(c.sort:Int)=42:=oM;have hb1:((c.sort:Int)==62)=false:=(by simp[hc1]);have hb2:((c.sort:Int)==42)=false:=(by simp[hc2]);clear hs HS3 hcm;go_wp2_with fail;go_roundg m
      case measure=>omega
      case rel=>exact⟨rest,_,gt,cap,rfl,D3,S3,M3,K3,oM,HS4⟩
end
end
section
open Tw Tw.Rf Go.Proofs.Tryz
open Go.RowKit
def intV(i:Int):Value:=.int .i64 i
section
variable {B bs bt Bk:Nat}{l:List Tw.Rf.RC}{bad:Bool}{env:List Bnd}{lv ev sv kv:Value}
def RdC(B bs bt Bk:Nat)(l:List RC)(bad:Bool)(env:List Bnd)(lv ev sv kv:Value)(k:Nat)(st:List Int)(r:Bool×List Int):Prop:=
 ∀(w:World),ST w B bs bt l bad env lv ev sv->RowV w Bk 3 kv (st.map intV)->Calls prog 72 #[.pointer (some ⟨bs,0,none⟩),.int .i64 k,kv] w λe a=>e=.returned (.bool r.1)/\w.grownBy a kv.ownBlock/\RowV a Bk 3 kv (r.2.map intV)
theorem zj8(hsep:∀g,kv.ownBlock=some g->sv.ownBlock≠some g):∀(n k:Nat) (st:List Int) (r:Bool×List Int),Fw n l st k=some r->RdC B bs bt Bk l bad env lv ev sv kv k st r:=by
 intro n
 induction n with
 |zero=>intro k st r h;simp[Fw]at h
 |succ n ih=>
  intro k st r hf w h hm;have IH:=bV ih;rw[Fw]at hf;obtain⟨x,hx,hf⟩:=zbE.1 hf;obtain⟨m,hk,hf⟩:=zbE.1 hf;have hfew:=h.few;have H:=bV h;have HM:=bV hm;have HX:=bV hx;have HF:=bV hf;have HSEP:=bV hsep;obtain⟨pk,ck,rfl⟩:=hm.slice;have HK:=bV (show(st.map intV)[x]?=some (vI m) by rw[sD,hk];rfl);have hxl:=(zlE.1 hk).1;have cT:prog.cellsOf 281=4:=kR;obtain⟨zl,hzl⟩:∃zl,(st.map intV).length=zl:=⟨_,rfl⟩;rw[hzl]at HM IH HSEP ⊢;have hxz:(x:Int)<(zl:Int):=by rw[<-hzl,uD];omega
  have HZL:=bV hzl;have hxs:=hxl;obtain⟨R,hR⟩:∃R,r.2.map intV=R:=⟨_,rfl⟩;rw[hR];have HR:=bV hR
  go_in;go_wp2_with fail;refine(Rc H.o HX.o).mono ?_;rintro e1 w1 ⟨rfl,hg⟩;have S1:=bV (H.o.grown hg);have M1:=bV (HM.o.grown hg);have G1:=bV (Ay (o:=(Value.slice pk zl ck).ownBlock) hg);obtain⟨gm,rfl,-,m0,mf,-,hgm⟩:=M1.o.at' HK.o;by_cases h2:m=2
  ·have hf:=HF.o;rw[mA h2]at hf;cases hf;subst h2;go_wp2_with fail;go_ret;exact⟨rfl,G1.o,by rw[<-HR.o];exact M1.o⟩
  by_cases h1:m=1
  ·have hf:=HF.o;rw[jA h2,mA h1]at hf;cases hf;subst h1;go_wp2_with fail;go_ret;exact⟨rfl,G1.o,by rw[<-HR.o];exact M1.o⟩
  have hf:=HF.o;rw[jA h2,jA h1]at hf;obtain⟨t,ht,hf⟩:=zbE.1 hf;have HT:=bV ht;have HF2:=bV hf;obtain⟨M2,G2⟩:=M1.o.set (k:=x) rfl (vI 1);have e2:(st.map intV).set x (vI 1)=(st.set x 1).map intV:=by rw[List.map_set];rfl
  rw[e2]at M2;have S2:=S1.o.beside M1.o ⟨dZ,dZ,dZ⟩ (λ_=>HSEP.o) G2;have hz12:=G2.size;have G2:=bV (Av G1.o G2);go_upto_region 7 with fail;obtain⟨w2,hw2⟩:∃w2,w1.setCell (aD gm x) (vI 1)=w2:=⟨_,rfl⟩;rw[hw2]at M2 S2 G2 hz12;rw[hw2];have hxt:(x:Int)<(l.length:Int):=by have:=(zlE.1 HT.o).1;omega
  have HZ2:Hid (w1.heap.size<=w2.heap.size):=bV hz12;obtain⟨_,c1,_,_,_⟩:=S2.cells;obtain⟨g,capl,e,d0,d1,d2,d3,_⟩:=S2.type HT.o;subst e;have S2:=bV S2;have M2:=bV M2;obtain⟨so,hso⟩:∃so:Int,(t.sort:Int)=so:=⟨_,rfl⟩;rw[hso]at d0;have HSO:=bV hso;go_upto_region 8 with fail;have g3:=zwA w2 (.cells #[vU so,vI t.a,vI t.b,vI t.foI] 281) none;have n3:=Ac w2 (.cells #[vU so,vI t.a,vI t.b,vI t.foI] 281);obtain⟨w3,hw3⟩:∃w3,w2.alloc (.cells #[vU so,vI t.a,vI t.b,vI t.foI] 281)=w3:=⟨_,rfl⟩;obtain⟨nb,hnb⟩:∃nb,w2.heap.size=nb:=⟨_,rfl⟩;rw[hw3]at g3 n3;rw[hw3];have hgl:gm<w2.heap.size:=aB hgm HZ2.o;rw[hnb]at n3 hgl;rw[hnb];have S3:=bV (S2.o.grown g3);have M3:=bV (M2.o.grown g3);have G3:=bV (Av G2.o (Ay g3));have u0:w3.cell? (aD nb 0)=some (vU so):=zcR n3;have u1:w3.cell? (aD nb 1)=some (vI t.a):=zcR n3;have N3:=bV n3;by_cases hcm:so=62\/so=42
  ·have hf:=HF2.o;rw[mA (by have:=HSO.o;omega)]at hf;obtain⟨a,ha,hf⟩:=zbE.1 hf;have HA:Hid (RdC B bs bt Bk l bad env (sL g l.length capl) ev sv _ t.a _ a):=IH.o _ _ _ ha;have HL:=bV (Nl ha);have HF3:=bV hf;rcases hcm with rfl|rfl
   all_goals
    go_wp2_with fail;refine(HA.o _ S3.o M3.o).mono ?_;rintro e4 w4 ⟨rfl,hg4,hm4⟩;have S4:=bV (S3.o.beside M3.o ⟨dZ,dZ,dZ⟩ (λ_=>HSEP.o) hg4);have M4:=bV hm4;have G4:=bV (Av G3.o hg4);have N4:=(hg4.block nb (zgE.1 N3.o).1 (by simp[Value.ownBlock];omega)).trans N3.o;have u2:w4.cell? (aD nb 2)=some (vI t.b):=zcR N4;obtain⟨a1,a2⟩:=a;cases a1 with
    |true=>
     have hf:=HF3.o;rw[mA rfl]at hf;cases hf;go_wp2_with fail;go_ret;exact⟨rfl,G4.o,by rw[<-HR.o];exact M4.o⟩
    |false=>
     have hf:=HF3.o;rw[jA sM]at hf;obtain⟨b,hb,hf⟩:=zbE.1 hf;have HB:Hid (RdC B bs bt Bk l bad env (sL g l.length capl) ev sv _ t.b a2 b):=IH.o _ _ _ hb;have HL2:=bV (Nl hb);have HF4:=bV hf;go_wp2_with fail;refine(HB.o _ S4.o M4.o).mono ?_;rintro e5 w5 ⟨rfl,hg5,hm5⟩;have M5:=bV hm5;have G5:=bV (Av G4.o hg5);obtain⟨b1,b2⟩:=b;cases b1 with
     |true=>
      have hf:=HF4.o;rw[mA rfl]at hf;cases hf;go_wp2_with fail;go_ret;exact⟨rfl,G5.o,by rw[<-HR.o];exact M5.o⟩
     |false=>
      have hf:=HF4.o;rw[jA sM]at hf;cases hf;have hxb:x<b2.length:=by
       have h1:=HL.o;have h2:=HL2.o;simp only[jB]at h1 h2;omega
      obtain⟨v,hv⟩:∃v,(b2.map intV)[x]?=some v:=⟨_,fA (by simpa using hxb)⟩;obtain⟨_,e5,-,y0,yf,-,-⟩:=M5.o.at' hv;cases e5;obtain⟨M6,G6⟩:=M5.o.set (k:=x) rfl (vI 2);have e2:(b2.map intV).set x (vI 2)=(b2.set x 2).map intV:=(by rw[List.map_set];rfl);rw[e2]at M6;have M6:=bV M6;have G6:=bV (Av G5.o G6);go_wp2_with fail;go_ret;exact⟨rfl,G6.o,by rw[<-HR.o];exact M6.o⟩
  ·have hf:=HF2.o;rw[jA (by have:=HSO.o;omega)]at hf;cases hf;have hc1:¬so=62:=λe=>hcm (.inl e);have hc2:¬so=42:=λe=>hcm (.inr e);have hb1:(so==62)=false:=(by simp[hc1]);have hb2:(so==42)=false:=(by simp[hc2]);obtain⟨_,e5,-,y0,yf,-,-⟩:=M3.o.at' (k:=x) (u:=vI 1) (by rw[sD,List.getElem?_set_self hxs];rfl);cases e5;obtain⟨M6,G6⟩:=M3.o.set (k:=x) rfl (vI 2);have e2:((st.set x 1).map intV).set x (vI 2)=((st.set x 1).set x 2).map intV:=(by rw[List.map_set (l:=st.set x 1)];rfl);rw[e2]at M6;have M6:=bV M6;have G6:=bV (Av G3.o G6);go_wp2_with fail;go_ret;exact⟨rfl,G6.o,by rw[<-HR.o];exact M6.o⟩
end
end
section
abbrev jD:=@Nat.eq_or_lt_of_le
end
section
open Tw Tw.Rf Go.Proofs.Tryz
open Go.RowKit
variable{z:Value}
theorem zj9(a:z.cells=#[z])(N:Nat):madeCells z.cells N=(List.replicate N z).toArray:=by
 rw[a];apply Array.ext
 ·simp[madeCells]
 ·intro i b c;simp[madeCells,Nat.mod_one]
theorem Ww(t e:TypeId)(z:Value)(n a:Nat)(f:prog.underlying t=some (.slice e))(hi:(prog.info? e).map (λi=>(i.zero,i.size,i.bytes))=some (some z,1,a))(c:a<=8)(g:z.cells=#[z])(d:n<=5000000):
  ∃b,b=(List.replicate n z).toArray/\∀W:World,(Instr.makeSlice t (vI n) (vI n)).run prog W=.ok (sL W.heap.size n n) (W.alloc (.cells b e)):=by
 obtain⟨o,hi,j,k,m⟩:=info_parts hi;refine⟨_,rfl,λW=>?_⟩;have p:a*n<=8*5000000:=Nat.mul_le_mul c d;have h:=run_make (P:=prog) W t e o z f hi j .i64 .i64 n n oM oM (by rw[m];omega) oM;rw[k]at h;simp only[Int.toNat_natCast,Nat.mul_one]at h;rw[zj9 g]at h;exact h
theorem RowV.made{W:World}{n:Nat}{e:TypeId}{a:Array Value}(b:n<=5000000)(h:a=(List.replicate n z).toArray):RowV (W.alloc (.cells a e)) W.heap.size e (sL W.heap.size n n) (List.replicate n z):=by
 subst h;unfold RowV;rw[wD];exact⟨sM,.inr ⟨W.heap.size,n,_,rfl,znL _,Ac W _,znL _,by unfold maxLen;omega,sM,sM⟩⟩
theorem zka{l:List Bnd}:∀ {j:Nat} {x:Bnd},l[j]?=some x->∀m,m<3->(l.flatMap bndC)[j*3+m]?=(bndC x)[m]? :=by
 induction l with
 |nil=>intro j x h;simp at h
 |cons y l ih=>
  intro j x h m a;rw[List.flatMap_cons];cases j with
  |zero=>
   cases h;rw[Nat.zero_mul,Nat.zero_add,iA (by simpa[bndC]using a)]
  |succ j=>
   rw[fB (by simp[bndC];omega)];rw[show(j+1)*3+m-(bndC y).length=j*3+m by simp[bndC];omega];exact ih (by simpa using h) m a
section
variable {w w':World}{B bs bt:Nat}{l:List Tw.Rf.RC}{bad:Bool}{env:List Bnd}{lv lv' ev sv:Value}
theorem ST.bnd(h:ST w B bs bt l bad env lv ev sv){k:Nat}{b:Bnd}(a:env[k]?=some b):∃g cap,ev=sL g env.length cap/\w.cell? (aD g (k*3))=some (vI b.1)/\w.cell? (aD g (k*3+1))=some (vI b.2.1)/\w.cell? (aD g (k*3+2))=some (.bool b.2.2):=by
 have p:=(zlE.1 a).1;have f:=zka a;have d:=h.envs;rcases h.envs.2 with⟨_,n⟩|⟨g,cap,j,e,_,o,_⟩
 ·omega
 ·rw[e]at d;have c:∀m,m<3->w.cell? ⟨g,k*3+m,none⟩=(bndC b)[m]? :=λm i=>(d.cellAt _ oM).trans (f m i);exact⟨g,cap,e,c 0 oM,c 1 oM,c 2 oM⟩
theorem zm7{pre post:List Bnd}{j r:Nat}{an:Bool}{q:Nat×List RC}(h:ST w B bs bt l bad (pre++(j,r,an)::post) lv ev sv)(hfirst:∀b∈pre,b.1≠j)(hfe:(pre++(j,r,an)::post).length<=100000)
  (hways:(an=false/\q=(r,l))\/(an=true/\(∃n,Rf.Au n (Qo pre) r l=some q)/\q.2.length<=5000000)) :
  Calls prog 128 #[pT bs,vI j] w λe w'=>e=.returned (vI q.1)/\TK B StS w w'/\∃lv',ST w' B bs bt q.2 bad (pre++(j,r,an)::post) lv' ev sv:=by
 have hfew:=h.few;have H:=bV h;have HW:=bV hways;have HF:=bV hfirst;have cT:prog.cellsOf 281=4:=kR;have cB:prog.cellsOf 284=3:=kR;have hmid:(pre++(j,r,an)::post)[pre.length]?=some (j,r,an):=sM;obtain⟨env,henv⟩:∃env,pre++(j,r,an)::post=env:=⟨_,rfl⟩;have HE:=bV henv;rw[henv]at H hfe hmid;rw[henv];have hpl:pre.length<env.length:=by rw[<-henv];simp
 obtain⟨ge,cape,rfl,m0,m1,m2⟩:=H.o.bnd hmid;have HMID:=bV hmid;obtain⟨_,_,_,a3,_⟩:=H.o.cells;obtain⟨P,hP⟩:∃P,pre.length=P:=⟨_,rfl⟩;rw[hP]at m0 m1 m2 hpl HMID;have HP:=bV hP;have hPi:(P:Int)<(env.length:Int):=oM;clear h hways hfirst henv hmid hP
 go_in;go_wp2_with fail;go_loopg[5] P (λm iv wr=>∃i:Nat,iv=vI i/\wr=w/\i+m=P)
 case atStart=>exact⟨0,rfl,rfl,oM⟩
 case round=>
  obtain⟨i,rfl,rfl,hi⟩:=hrel;rcases jD (show i<=P by omega)with rfl|hlt;rotate_left
  ·have hgi:∃b,env[i]?=some b/\b.1≠j:=by
    have:=HP.o;obtain⟨b,hb⟩:∃b,pre[i]?=some b:=⟨_,fA oM⟩;refine⟨b,?_,HF.o b (dD hb)⟩;rw[<-HE.o,iA oM];exact hb
   obtain⟨b,hb,hbj⟩:=hgi;obtain⟨ge',cape',e,n0,_,_⟩:=H.o.bnd hb;cases e;have hbi:¬(b.1:Int)=(j:Int):=oM;have hii:(i:Int)<(env.length:Int):=oM;clear hb hbj;go_wp2_with fail;go_roundg (P-(i+1))
   case measure=>omega
   case rel=>exact⟨i+1,by push_cast;rfl,rfl,oM⟩
  ·obtain⟨w0,rfl⟩:∃w0,w0=wr:=⟨_,rfl⟩;go_upto_region 5 with fail;have g1:=zwA w0 (.cells #[vI j,vI r,.bool an] 284) none;have n1:=Ac w0 (.cells #[vI j,vI r,.bool an] 284);have z1:(w0.alloc (.cells #[vI j,vI r,.bool an] 284)).heap.size=w0.heap.size+1:=sM;obtain⟨w1,hw1⟩:∃w1,w0.alloc (.cells #[vI j,vI r,.bool an] 284)=w1:=⟨_,rfl⟩;obtain⟨nb,hnb⟩:∃nb,w0.heap.size=nb:=⟨_,rfl⟩;rw[hw1]at g1 n1 z1;rw[hw1,hnb];rw[hnb]at n1 z1;have S1:=bV (H.o.grown g1);have G1:=bV g1;have N1:=bV n1;have v1:w1.cell? (aD nb 1)=some (vI r):=zcR n1;have v2:w1.cell? (aD nb 2)=some (.bool an):=zcR n1;have HNB:=bV hnb;clear g1 n1 hw1 m0 m1 m2 a3 hnb;rcases HW.o with⟨rfl,rfl⟩|⟨rfl,⟨n,hq⟩,hql⟩
   ·go_wp2_with fail;go_ret;exact⟨rfl,TK.of_grown _ _ G1.o,lv,S1.o⟩
   ·have HQ:=bV hq;clear hq HW;obtain⟨pl,cl,rfl⟩:=S1.o.slice;obtain⟨_,b1,_,_,_⟩:=S1.o.cells;obtain⟨MC,hMC,hmk⟩:=Ww 350 4 (.bool false) l.length 1 underlying350 kR oM rfl hfew;obtain⟨MD,hMD,hmd⟩:=Ww 33 3 (vI 0) l.length 8 underlying33 kR oM rfl hfew;have HMC:=bV hMC;have HMD:=bV hMD;have HMKD:=bV hmd;have hq:=HQ.o;unfold Rf.Au at hq;obtain⟨mkF,hmF,hq⟩:=zbE.1 hq;obtain⟨q3,hq3,hq⟩:=zbE.1 hq;cases hq;have HMF:=bV hmF;have HQ3:=bV hq3;clear hMC hMD hmd hmF hq3 HQ;go_upto_region 8 with fail;have g2:=zwA w1 (.cells MC 4) none;have r2:=RowV.made (W:=w1) (e:=4) hfew HMC.o;rw[z1]at r2;obtain⟨w2,hw2⟩:∃w2,w1.alloc (.cells MC 4)=w2:=⟨_,rfl⟩;rw[hw2]at g2 r2;rw[hw2];have S2:=bV (S1.o.grown g2);have G2:=bV (Ab G1.o g2);have N2:=bV ((g2.block nb oM sM).trans N1.o);have R2:Hid (RowV w2 (nb+1) 4 (.slice (some ⟨nb+1,0,none⟩) l.length l.length) ((List.replicate l.length false).map Value.bool)):=(by rw[List.map_replicate];exact bV r2);clear g2 r2 hw2 v1 v2 b1 S1 N1 hmk;go_wp2_with fail;go_loopg[8] i (λm iv wx=>∃(i2:Nat) (mc:List Bool),iv=vI i2/\i2+m=i/\Hid (ST wx B bs bt l bad env (.slice pl l.length cl) (sL ge env.length cape) sv)/\Hid (RowV wx (nb+1) 4 (.slice (some ⟨nb+1,0,none⟩) l.length l.length) (mc.map Value.bool))/\Hid (w2.grownBy wx (some (nb+1)))/\Hid (mc.length=l.length)/\Hid (Nt n l (Qo (pre.drop i2)) mc=some mkF))
    case atStart=>exact⟨0,List.replicate l.length false,rfl,oM,S2,R2,bV (Fh (Aa w2)),bV sM,HMF⟩
    case round=>
     obtain⟨i2,mc,rfl,hi2,SX,RX,GX,LX,FX⟩:=hrel;rcases jD (show i2<=i by omega)with rfl|hlt;rotate_left
     ·obtain⟨b,hb⟩:∃b,pre[i2]?=some b:=⟨_,fA (by have:=HP.o;omega)⟩;have hd:pre.drop i2=b::pre.drop (i2+1):=by
       obtain⟨h1,rfl⟩:=zlE.1 hb;exact lD h1
      have hbe:env[i2]?=some b:=(by rw[<-HE.o,iA (by have:=HP.o;omega)];exact hb);obtain⟨ge',cape',e,_,n1,n2⟩:=SX.o.bnd hbe;cases e;obtain⟨_,_,_,a3,_⟩:=SX.o.cells;have hii:(i2:Int)<(env.length:Int):=oM;have hix:(i2:Int)<(i:Int):=oM;have hf:=FX.o;rw[hd]at hf;obtain⟨x1,x2,x3⟩:=b;clear hb hbe hd;cases x3 with
      |true=>
       have FX2:Hid (Nt n l (Qo (pre.drop (i2+1))) mc=some mkF):=bV hf;clear hf FX;go_wp2_with fail;go_roundg (i-(i2+1))
       case measure=>omega
       case rel=>exact⟨i2+1,mc,by push_cast;rfl,oM,SX,RX,GX,LX,FX2⟩
      |false=>
       have hf:Nt n l (x2::Qo (pre.drop (i2+1))) mc=some mkF:=hf;rw[Nt]at hf;obtain⟨mc2,hf1,hf2⟩:=zbE.1 hf;have F1:=bV hf1;have F2:=bV hf2;clear hf hf1 hf2 FX;go_wp2_with fail;refine(zl2 SX.o RX.o LX.o F1.o).mono ?_;rintro e3 w3 ⟨rfl,hg3,hr3⟩;have S3:=bV (SX.o.beside RX.o ⟨dZ,dZ,dZ⟩ (λe=>absurd e dZ) hg3);have R3:=bV hr3;have G3:=bV (Av GX.o hg3);have L3:=bV ((Tu F1.o).trans LX.o);clear hg3 hr3 n1 n2 a3 SX RX GX;go_wp2_with fail;go_roundg (i-(i2+1))
       case measure=>omega
       case rel=>exact⟨i2+1,mc2,by push_cast;rfl,oM,S3,R3,G3,L3,F2⟩
     ·have hf:=FX.o;rw[List.drop_eq_nil_of_le (by rw[HP.o];exact znL _)]at hf;obtain rfl:mc=mkF:=(by simpa[Qo,Nt]using hf);obtain⟨_,b1,_,_,_⟩:=SX.o.cells;have hmk:=HMKD.o;clear hf FX;go_upto_region 14 with fail;have g4:=zwA wr (.cells MD 3) none;have r4:=RowV.made (W:=wr) (e:=3) hfew HMD.o;obtain⟨w4,hw4⟩:∃w4,wr.alloc (.cells MD 3)=w4:=⟨_,rfl⟩;obtain⟨cb,hcb⟩:∃cb,wr.heap.size=cb:=⟨_,rfl⟩;rw[hw4]at g4 r4;rw[hcb]at r4;rw[hw4,hcb];have hcz:nb+1<cb:=by
       rw[<-hcb];have h1:=(RX.o.blk rfl);obtain⟨c,hc⟩:=h1;exact(zgE.1 hc).1
      have S4:=bV (SX.o.grown g4);have M4:=bV (RX.o.grown g4);have R4:=bV r4;have G4:=bV (Av GX.o (Fh g4));clear g4 r4 hw4 hcb b1 SX RX GX hmk;go_wp2_with fail;go_loopg[10] l.length (λm iv wy=>∃i3:Nat,iv=vI i3/\i3+m=l.length/\Hid (RowV wy cb 3 (sL cb l.length l.length) (List.replicate i3 (vI (-1))++List.replicate m (vI 0)))/\Hid (w4.grownBy wy (some cb)))
      case atStart=>exact⟨0,rfl,oM,by simpa using R4,bV (Fh (Aa w4))⟩
      case round=>
       obtain⟨i3,rfl,hi3,RY,GY⟩:=hrel;rcases jD (show i3<=l.length by omega)with he|hlt;rotate_left
       ·obtain⟨m,rfl⟩:∃m,gk=m+1:=⟨gk-1,oM⟩;have hget:(List.replicate i3 (vI (-1))++List.replicate (m+1) (vI 0))[i3]?=some (vI 0):=by
         rw[fB sM];simp
        obtain⟨_,e,-,y0,yf,-,-⟩:=RY.o.at' hget;cases e;obtain⟨R5,G5⟩:=RY.o.set (k:=i3) rfl (vI (-1));have e5:(List.replicate i3 (vI (-1))++List.replicate (m+1) (vI 0)).set i3 (vI (-1))=List.replicate (i3+1) (vI (-1))++List.replicate m (vI 0):=by
         rw[aE _ _ sM,wD,Nat.sub_self,List.replicate_succ,zsZ,List.replicate_succ',wA];rfl
        rw[e5]at R5;have R5:=bV R5;have G5:=bV (Av GY.o G5);have hix:(i3:Int)<(l.length:Int):=oM;clear hget e5 RY GY;go_wp2_with fail;go_roundg m
        case measure=>omega
        case rel=>exact⟨i3+1,by push_cast;rfl,oM,R5,G5⟩
       ·obtain rfl:gk=0:=oM;rw[he,List.replicate_zero,List.append_nil]at RY;have C5:Hid (RowV wr cb 3 (sL cb l.length l.length) ((List.replicate l.length (none:Option Nat)).map cpV)):=(by rw[List.map_replicate];exact RY);have hsv:∀g,(sL cb l.length l.length).ownBlock=some g->sv.ownBlock≠some g:=λg hg e=>by
         have e1:cb=g:=(by simpa[Value.ownBlock]using hg);obtain⟨_,hs⟩:=H.o.seen;have h1:=(hs.lt _ e).2;have h3:=HNB.o;omega
        have S5:=bV (S4.o.beside R4.o ⟨dZ,dZ,dZ⟩ (λ_=>hsv) GY.o);have M5:=bV (M4.o.kept λg hg=>by
         have e1:nb+1=g:=(by simpa[Value.ownBlock]using hg);subst e1;obtain⟨c,hc⟩:=M4.o.blk rfl;exact GY.o.block _ (zgE.1 hc).1 (by simp;omega))
        have NN:wr.heap[nb]?=some (.cells #[vI j,vI r,.bool true] 284):=(GY.o.block nb (aB (zgE.1 N2.o).1 G4.o.size) (by simp;omega)).trans ((G4.o.block nb (zgE.1 N2.o).1 sM).trans N2.o);have v1:wr.cell? (aD nb 1)=some (vI r):=zcR NN;have AN:=bV (zl1 hsv n r l _ q3 HQ3.o hql _ _ S5.o M5.o C5.o);have hel:¬(i3:Int)<(l.length:Int):=oM;clear NN RY S4 M4;go_wp2_with fail;refine AN.o.mono ?_;rintro e6 w6 ⟨rfl,lv6,hf6,hs6,hc6⟩;have S6:=bV hs6;have K6:Hid (TK B StS w0 w6):=by
         -- from w0 to wr:all that lay there lies there;then what turns the store
         have A:w0.grownBy wr none:=⟨GY.o.os.trans (G4.o.os.trans G2.o.os),GY.o.tape.trans (G4.o.tape.trans G2.o.tape),GY.o.output.trans (G4.o.output.trans G2.o.output),kB G2.o.size (kB G4.o.size GY.o.size),λk hk _=>by
          have h3:=HNB.o;exact(GY.o.block k (aB hk (kB G2.o.size G4.o.size)) (by simp;omega)).trans ((G4.o.block k (aB hk G2.o.size) (by simp;omega)).trans (G2.o.block k hk sM))⟩
         have f:SF bs none (.slice pl l.length cl) lv6 w0 w6:={os:=hf6.os.trans A.os,tape:=hf6.tape.trans A.tape,output:=hf6.output.trans A.output,size:=kB A.size hf6.size,block:=λ{k} h1 h2 h3 _=>(hf6.block (aB h1 A.size) h2 h3 (by have:=HNB.o;simp[Value.ownBlock];omega)).trans (A.block k h1 sM),next:=λ{g} e=>(hf6.next e).imp id (λe=>kB A.size e)};exact bV (SF.tk H.o f)
        clear hf6 hs6 hc6;go_wp2_with fail;go_ret;exact⟨rfl,K6.o,lv6,S6.o⟩
end
end
section
open Tw Tw.Rf Go.Proofs.Tryz
open Go.RowKit
def OfS:List TypeId:=[155,281,284,3]
theorem Fy{B:Nat}{w w':World}(h:TK B StS w w'):TK B OfS w w':=h.sub dZ
section
variable {w w':World}{B Br bs bt:Nat}{s:ByteArray}{body:List Tw.Tok}{N:List Tw.Rf.RN}{tv nv:Value}{root er:Int}{l:List Tw.Rf.RC}{bad:Bool}{env:List Bnd}{lv lv' ev sv:Value}
variable{E:List Bnd}{b:Bnd}
theorem RT.tk(h:RT w Br bt s body N tv nv root er)(k:TK B OfS w w'):RT w' Br bt s body N tv nv root er:=
 {h with tree:=k.cells h.tree dZ,toks:=Ag h.toks λg c a=>k.cells a dZ,nodes:=Ag h.nodes λg c a=>k.cells a dZ}
def Kx:Value->Nat
 |.slice _ n _=>n
 |_=>0
def OC(B Br bs bt:Nat)(s:ByteArray)(body:List Tw.Tok)(N:List RN)(tv nv:Value)(root er:Int)(z:Nat)(k:Int)(E:List Bnd)(sa:Rf.RS)(r:Nat)(a:Rf.RS):Prop:=
 ∀(w:World) (lv ev sv:Value),Kx sv+z<=10000->RT w Br bt s body N tv nv root er->ST w B bs bt sa.l sa.bad E lv ev sv->Calls prog 71 #[.pointer (some ⟨bs,0,none⟩),.int .i64 k] w λe w'=>e=.returned (.int .i64 r)/\TK B OfS w w'/\∃lv' d c,Kx c<=Kx sv+z/\ST w' B bs bt a.l a.bad E lv' d c
def WiC(B Br bs bt:Nat)(s:ByteArray)(body:List Tw.Tok)(N:List RN)(tv nv:Value)(root er:Int)(z:Nat)(b:Bnd)(k:Int)(E:List Bnd)(sa:Rf.RS)(r:Nat)(a:Rf.RS):Prop:=
 ∀(w:World) (lv ev sv:Value),Kx sv+z<=10000->RT w Br bt s body N tv nv root er->ST w B bs bt sa.l sa.bad E lv ev sv->Calls prog 132 #[.pointer (some ⟨bs,0,none⟩),.agg #[.int .i64 b.1,.int .i64 b.2.1,.bool b.2.2],.int .i64 k] w λe w'=>e=.returned (.int .i64 r)/\TK B OfS w w'/\∃lv' d c,Kx c<=Kx sv+z/\ST w' B bs bt a.l a.bad E lv' d c
theorem ST.eslice(h:ST w B bs bt l bad env lv ev sv):∃p c,ev=.slice p env.length c:=by
 rcases h.envs.2 with⟨a,d⟩|⟨f,e,_,a,_⟩
 ·exact⟨_,_,by rw[a,d]⟩
 ·exact⟨_,_,a⟩
theorem ST.eform(h:ST w B bs bt l bad env lv ev sv)(i:0<env.length):∃g cap,ev=sL g env.length cap/\env.length<=cap:=by
 rcases h.envs.2 with⟨a,e⟩|⟨f,d,_,a,_,_,c,_⟩
 ·omega
 ·exact⟨_,_,a,c⟩
theorem zch:∀E:List Bnd,(E.flatMap bndC).length=E.length*3
 |[]=>rfl
 |b::E=>by rw[List.flatMap_cons,eA,zch E,zB];simp[bndC];omega
theorem ST.popE{g n cap:Nat}{v:Value}(h:ST w B bs bt l bad (E++[b]) lv (sL g n cap) sv)(y:n=E.length+1)(C:v=sL g E.length cap):ST (w.setCell (aD bs 3) v) B bs bt l bad E lv v sv:=by
 subst y C;have keep:∀ {j:Nat} {c:Array Value} {d:TypeId},d≠155->w.heap[j]?=some (.cells c d (0,0))->(w.setCell (aD bs 3) (sL g E.length cap)).heap[j]?=some (.cells c d (0,0)):=λ{j c d} A a=>(aA w (aD bs 3) j _ (by rintro rfl;rw[h.store]at a;cases a;exact A rfl)).trans a;obtain⟨D,z⟩:=h.seen;refine⟨Bo h.store _,Ag h.types λg c a=>keep dZ a,?_,⟨D,Ag z λg c a=>keep dZ a⟩,h.low,h.few⟩;have x:=Ag h.envs λg c a=>keep dZ a;obtain⟨i,f⟩:=x;rw[List.flatMap_append,eA]at i f;simp only[List.flatMap_cons,List.flatMap_nil,List.append_nil,zB,zD,Nat.zero_add]at i f;have k:=zch E;refine⟨k,?_⟩;rcases f with⟨e,_⟩|⟨H,G,t,e,m,o,F,p,q,r⟩
 ·cases e
 ·cases e;refine .inr ⟨g,cap,t,rfl,m,o,oM,p,q,?_⟩
  have:=congrArg (List.take (E.length*3)) r;rw[List.take_take,List.take_left' k,show min (E.length*3) ((E.length+1)*3)=E.length*3 by omega]at this;exact this
theorem zm8(h:ST w B bs bt l bad env lv ev sv)(a:w.grownBy w' ev.ownBlock):TK B OfS w w' where
 low:=λ{k} q j=>a.block k j (λe=>by have:=(h.envs.lt k e.symm).1;omega)
 os:=a.os
 tape:=a.tape
 output:=a.output
 size:=a.size
 cells:=λi g=>Dv h.envs a i (λe=>by rw[e]at g;revert g;decide)
 other:=λ{k r} d m=>(a.block k (zgE.1 d).1 (λe=>by
  rcases h.envs.2 with⟨c,_⟩|⟨p,n,o,c,_,f,_⟩
  ·rw[c]at e;simp[Value.ownBlock]at e
  ·rw[c]at e;simp[Value.ownBlock]at e;subst e;rw[d]at f;cases f;exact m _ _ _ rfl)).trans d
theorem Tryz.info284:(Tryz.prog.info? 284).map (λi=>(i.zero,i.size,i.bytes))=some (some (.agg #[vI 0,vI 0,.bool false]),3,24):=kR
theorem Vh{k:Int}{sa sb:Rf.RS}{r z:Nat}(hE:E.length<=100000)(hO:OC B Br bs bt s body N tv nv root er z k (E++[b]) sa r sb):WiC B Br bs bt s body N tv nv root er z b k E sa r sb:=by
 intro w lv ev sv hz ht h;obtain⟨b1,b2,b3⟩:=b;obtain⟨i0,hi0,hz0,hz1,hz2⟩:=info_parts Tryz.info284;have hbs:bs<w.heap.size:=(zgE.1 h.store).1;have H:=bV h;have HT:=bV ht;have HO:=bV hO
 go_in;go_upto_region 1 with fail;have g1:=zwA w (.cells #[vI b1,vI b2,.bool b3] 284) none;have n1:=Ac w (.cells #[vI b1,vI b2,.bool b3] 284);have s1:(w.alloc (.cells #[vI b1,vI b2,.bool b3] 284)).heap.size=w.heap.size+1:=sM;obtain⟨p,cc,rfl⟩:=H.o.eslice;have hown:∀k,(Value.slice p E.length cc).ownBlock=some k->k<w.heap.size:=λk hk=>(H.o.envs.lt k hk).2;have H1:=bV (H.o.grown g1);have HT1:=bV (HT.o.grown g1);have hmx:prog.follows .mixedOrders=true:=kR;obtain⟨tb,htb⟩:∃tb,w.heap.size=tb:=⟨_,rfl⟩;obtain⟨w1,hw1⟩:∃w1,w.alloc (.cells #[vI b1,vI b2,.bool b3] 284)=w1:=⟨_,rfl⟩;rw[hw1]at g1 n1 s1 H1 HT1;rw[htb]at n1 s1 hbs hown;rw[hw1,htb];have G1:=bV g1;have N1:=bV n1;have hlow:=H1.o.low;have CL:Hid (∀W,w1.grownBy W (Value.slice p E.length cc).ownBlock->W.cell? (aD tb 0)=some (vI b1)/\W.cell? (aD tb 1)=some (vI b2)/\W.cell? (aD tb 2)=some (.bool b3)):=bV λW hW=>by
  have m:W.heap[tb]?=_:=(hW.block tb (zgE.1 N1.o).1 (λe=>?_)).trans N1.o
  ·refine⟨?_,?_,?_⟩<;>(rw[mB _ _ _ _ _ _ m];rfl)
  ·have:=hown tb e.symm;omega
 refine Er (λW=>W.cell? (aD tb 0)=some (vI b1)/\W.cell? (aD tb 1)=some (vI b2)/\W.cell? (aD tb 2)=some (.bool b3)) hmx (uh CL _ (Ay (Ad (Aa w1)))) ?_;intro hSd;refine tkH 0 (v:=pT bs) rfl (λW _=>by go_simp) hSd ?_;simp only[Act.put];refine tkH 1 (v:=pT bs) rfl (λW _=>by go_simp) hSd ?_;simp only[Act.put];refine tkH 2 (v:=pT bs) rfl (λW _=>by go_simp) hSd ?_;simp only[Act.put];refine tkH 3 (v:=.pointer (some (aD bs 3))) rfl (λW _=>by go_simp) hSd ?_;simp only[Act.put];refine tkH 5 (v:=.agg #[vI b1,vI b2,.bool b3]) rfl (λW ⟨e0,e1,e2⟩=>by go_simp) hSd ?_;simp only[Act.put];refine gE (rs:=[4,6]) kR sM ?_;refine yA rfl (λK hK=>?_) (yA rfl (λK hK=>?_) zA)
 case' _=>
  obtain⟨_,_,_,c10,_⟩:=(H1.o.grown (Ad (Aa w1))).cells;go_simp;refine hK.out _ _ (uh CL _ (Ay (Ad (Aa w1)))) (λhSd=>?_);refine gE (rs:=[6]) kR sM ?_;refine yA rfl (λK hK=>?_) zA;go_simp;refine hK.out _ _ (uh CL _ (Ay (Ai (Ad (Aa w1)) _))) (λhSd=>?_)
 rotate_left
 case' _=>
  go_simp;refine hK.out _ _ (uh CL _ (Ay (Ad (Ai (Aa w1) _)))) (λhSd=>?_);refine gE (rs:=[4]) kR sM ?_;refine yA rfl (λK hK=>?_) zA;obtain⟨_,_,_,c10,_⟩:=(H1.o.grown (Ad (Ai (Aa w1) (.cells #[vI b1,vI b2,.bool b3] 284)))).cells;go_simp;refine hK.out _ _ (uh CL _ (Ay (Ad (Ai (Aa w1) _)))) (λhSd=>?_)
 all_goals
  have GA:w1.grownBy (w1.drew.alloc (.cells #[vI b1,vI b2,.bool b3] 284)) none:=Ai (Ad (Aa w1)) _;have NA:(w1.drew.alloc (.cells #[vI b1,vI b2,.bool b3] 284)).heap[w1.heap.size]?=some (.cells #[vI b1,vI b2,.bool b3] 284):=Ac w1.drew _;have HA:=H1.o.grown GA;have TA:=HT1.o.grown GA;have hsz:w1.heap.size<(w1.drew.alloc (.cells #[vI b1,vI b2,.bool b3] 284)).heap.size:=sM;obtain⟨wa,hwa⟩:∃wa,w1.drew.alloc (.cells #[vI b1,vI b2,.bool b3] 284)=wa:=⟨_,rfl⟩;rw[hwa]at GA NA HA TA hsz
  first
   |rw[hwa]
   |rw[show(w1.alloc (.cells #[vI b1,vI b2,.bool b3] 284)).drew=w1.drew.alloc (.cells #[vI b1,vI b2,.bool b3] 284)from rfl,hwa]
  rw[s1]at NA hsz;have HA:=bV HA;have TA:=bV TA;have GA:=bV GA;refine gE (rs:=[7]) kR sM ?_;refine yA rfl (λK hK=>?_) zA;rw[mA (by rfl)];refine wp_append_lies _ _ _ 153 rfl B 284 i0 (.agg #[vI 0,vI 0,.bool false]) 3 24 underlying153 hi0 hz0 hz1 hz2 rfl dZ (.slice p E.length cc) E.length (E.flatMap bndC) rfl HA.o.envs ⟨tb+1,0,none⟩ 1 1 [vI b1,vI b2,.bool b3] rfl rfl (jE NA) (by intro u hu;simp at hu;rcases hu with rfl|rfl|rfl<;>rfl) dZ (by unfold maxLen;omega) oM oM _ rfl ?_;intro g5 cap5 w5 hown5 hgrow5 hat5 _;have GW5:wa.grownBy w5 (Value.slice p E.length cc).ownBlock:=⟨hgrow5.os,hgrow5.tape,hgrow5.output,hgrow5.size,hgrow5.block⟩;have C5:=uh CL _ (Hi GA.o GW5);have S5:=Dv HA.o.envs GW5 HA.o.store dZ;have E5:=Ag HA.o.types λg c hc=>Dv HA.o.envs GW5 hc dZ;obtain⟨sn,hsn⟩:=HA.o.seen;have Q5:=Ag hsn λg c hc=>Dv HA.o.envs GW5 hc dZ;have O5:=bV hown5;have m5:w5.heap[tb]?=_:=((Hi GA.o GW5).block tb (zgE.1 N1.o).1 (λe=>by have:=hown tb e.symm;omega)).trans N1.o;have K5:=bV ((TK.of_grown B OfS (Ab G1.o GA.o)).trans (zm8 HA.o GW5));refine hK.out _ _ C5 (λhSd=>?_);refine gE (rs:=[8]) kR sM ?_;refine yA rfl (λK hK=>?_) zA;go_simp;refine hK.out _ _ C5 (λhSd=>?_);refine gE (rs:=[9]) kR sM ?_;refine yA rfl (λK hK=>?_) zA;go_simp;refine hK.out _ _ C5 (λhSd=>?_);refine gE (rs:=[10]) kR sM ?_;refine yA rfl (λK hK=>?_) zA;have fz:w5.frozen? (aD bs 3)=false:=eB _ _ _ _ _ S5;have cz:w5.cell? (aD bs 3)=some (.slice p E.length cc):=zcR S5;go_simp;have X5:ST w5 B bs bt sa.l sa.bad E lv (.slice p E.length cc) sv->True:=λ_=>trivial;have S6:(w5.setCell (aD bs 3) (sL g5 (E.length+1) cap5)).heap[bs]?=some (.cells #[pT bt,lv,.bool sa.bad,sL g5 (E.length+1) cap5,sv] 155 (0,0)):=Bo S5 _;have keep:∀ {g:Nat} {c:Array Value} {u:TypeId},u≠155->w5.heap[g]?=some (.cells c u (0,0))->(w5.setCell (aD bs 3) (sL g5 (E.length+1) cap5)).heap[g]?=some (.cells c u (0,0)):=λ{g c u} hu hc=>(aA w5 (aD bs 3) g _ (by rintro rfl;rw[S5]at hc;cases hc;exact hu rfl)).trans hc;have m6:=keep dZ m5;refine hK.out _ _ ?_ (λ_=>?_)
  ·refine⟨?_,?_,?_⟩<;>(rw[mB _ _ _ _ _ _ m6];rfl)
  have K6:=K5.o.trans (Fy (Sr (j:=3) S5 hlow (sL g5 (E.length+1) cap5)));have X6:ST (w5.setCell (aD bs 3) (sL g5 (E.length+1) cap5)) B bs bt sa.l sa.bad (E++[(b1,b2,b3)]) lv (sL g5 (E.length+1) cap5) sv:=by
   refine⟨S6,Ag E5 λg c hc=>keep dZ hc,?_,⟨sn,Ag Q5 λg c hc=>keep dZ hc⟩,hlow,HA.o.few⟩;have h6:=Ag O5.o λg c hc=>keep dZ hc;rw[eA,List.flatMap_append];exact h6
  have T6:=HT.o.tk K6;obtain⟨w6,hw6⟩:∃w6,w5.setCell (aD bs 3) (sL g5 (E.length+1) cap5)=w6:=⟨_,rfl⟩;rw[hw6]at K6 X6 T6 ⊢;have K6:=bV K6;have X6:=bV X6;have T6:=bV T6;refine iE kR ⟨rfl,?_⟩ _;go_wp2_with fail;refine(HO.o _ _ _ _ hz T6.o X6.o).mono ?_;rintro e7 w7 ⟨rfl,hk7,lv7,ev7,sv7,hv7,hs7⟩;have K7:=bV (K6.o.trans hk7);have S7:=bV hs7;obtain⟨g7,cap7,rfl,hg7⟩:=hs7.eform sM;go_upto_region 3 with fail;have hl7:(E++[(b1,b2,b3)]).length=E.length+1:=sM;rw[hl7]at S7 hg7;obtain⟨_,_,_,c3,_⟩:=S7.o.cells;have f3:w7.frozen? (aD bs 3)=false:=eB _ _ _ _ _ S7.o.store;have X8:=S7.o.popE (v:=sL g7 E.length cap7) (E:=E) (b:=(b1,b2,b3)) rfl rfl;have X8:=bV X8;have K8:=bV (K7.o.trans (Fy (Sr (j:=3) S7.o.store S7.o.low (sL g7 E.length cap7))));go_region;go_wp2_with fail;go_ret;exact⟨rfl,K8.o.trans (TK.of_grown _ _ (Ad (Aa _))),_,_,_,hv7,X8.o.grown (Ad (Aa _))⟩
end
end
section
open Tw Tw.Rf Go.Proofs.Tryz
open Go.RowKit
section
variable {B Br bs bt z:Nat}{s:ByteArray}{body:List Tw.Tok}{N:List Tw.Rf.RN}{tv nv:Value}{root er:Int}
variable{E:List Bnd}{sa:Tw.Rf.RS}
theorem Kr{k:Int}(b:sa.bad=true):OC B Br bs bt s body N tv nv root er z k E sa 0 sa:=by
 intro w g d i f e h;obtain⟨c,_,a,_,_⟩:=h.cells;rw[b]at a;have H:=bV h
 go_in;go_wp2_with fail;go_ret;exact⟨rfl,TK.refl _ _ _,_,_,_,oM,H.o⟩
theorem zes{k:Nat}{x:RN}{sb:Rf.RS}{r:Nat}(hk:N[k]?=some x)(hbad:sa.bad=false)(hlen:sb.l.length<=5000000)
  (hways:(x.sort=105/\r=sa.l.length/\sb=sa.put ⟨105,0,0,none⟩)\/((x.sort=116\/x.sort=102)/\r=sa.l.length/\sb=sa.put ⟨98,0,0,none⟩)\/(x.sort=103/\OC B Br bs bt s body N tv nv root er z x.a E sa r sb)) :
  OC B Br bs bt s body N tv nv root er z k E sa r sb:=by
 intro w lv ev sv hz ht h;have hklt:=(zlE.1 hk).1;have hfew:=ht.few;have cN:prog.cellsOf 276=9:=kR;obtain⟨_,_,t2,_,_⟩:=ht.cells;obtain⟨g,cap,rfl,d0,d1,d2,d3,d4,d5,d6,d7,d8,_⟩:=ht.node hk;obtain⟨a0,_,a2,_,_⟩:=h.cells;have hkl:(k:Int)<(N.length:Int):=oM;have hk0:¬(k:Int)<0:=oM;rw[hbad]at a2;obtain⟨so,hso⟩:∃so:Int,(x.sort:Int)=so:=⟨_,rfl⟩;rw[hso]at d0;have HSO:=bV hso;have HW:=bV hways;have H:=bV h;have HT:=bV ht
 go_in;go_upto_region 4 with fail;have g1:=zwA w (.cells #[vU so,vI x.a,vI x.b,vI x.c,vI x.first,vI x.last,vI x.name,vI x.binder,.bool false] 276) none;have n1:=Ac w (.cells #[vU so,vI x.a,vI x.b,vI x.c,vI x.first,vI x.last,vI x.name,vI x.binder,.bool false] 276);obtain⟨w1,hw1⟩:∃w1,w.alloc (.cells #[vU so,vI x.a,vI x.b,vI x.c,vI x.first,vI x.last,vI x.name,vI x.binder,.bool false] 276)=w1:=⟨_,rfl⟩;obtain⟨nb,hnb⟩:∃nb,w.heap.size=nb:=⟨_,rfl⟩;rw[hw1]at g1 n1;rw[hnb]at n1;rw[hw1,hnb];have S1:=bV (H.o.grown g1);have T1:=bV (HT.o.grown g1);have K1:=bV (TK.of_grown B OfS g1);have N1:=bV n1;have m0:w1.cell? (aD nb 0)=some (vU so):=zcR n1;go_upto_region 5 with fail;rcases HW.o with⟨hs,rfl,rfl⟩|⟨hs,rfl,rfl⟩|⟨hs,hA⟩
 ·obtain rfl:so=105:=by have:=HSO.o;omega
  have AD:=bV (Ji S1.o ⟨105,0,0,none⟩ rfl 0 (by simpa[Rf.RS.put]using hlen));go_wp2_with fail;refine AD.o.mono ?_;rintro e2 w2 ⟨rfl,lv2,hf,hs2⟩;have S2:=bV hs2;have K2:=bV (K1.o.trans (Fy (SF.tk S1.o hf)));go_wp2_with fail;go_ret;exact⟨rfl,K2.o,_,_,_,oM,S2.o⟩
 ·have hw:so=116\/so=102:=by have:=HSO.o;omega
  have AD:=bV (Ji S1.o ⟨98,0,0,none⟩ rfl 0 (by simpa[Rf.RS.put]using hlen));rcases hw with rfl|rfl
  all_goals
   go_wp2_with fail;refine AD.o.mono ?_;rintro e2 w2 ⟨rfl,lv2,hf,hs2⟩;have S2:=bV hs2;have K2:=bV (K1.o.trans (Fy (SF.tk S1.o hf)));go_wp2_with fail;go_ret;exact⟨rfl,K2.o,_,_,_,oM,S2.o⟩
 ·obtain rfl:so=103:=by have:=HSO.o;omega
  have HA:=bV hA;have m1:w1.cell? (aD nb 1)=some (vI x.a):=zcR N1.o;go_wp2_with fail;refine(HA.o _ _ _ _ oM T1.o S1.o).mono ?_;rintro e2 w2 ⟨rfl,hk2,lv2,ev2,sv2,hv2,hs2⟩;have S2:=bV hs2;have K2:=bV (K1.o.trans hk2);go_wp2_with fail;go_ret;exact⟨rfl,K2.o,_,_,_,oM,S2.o⟩
end
end
section
open Tw Tw.Rf Go.Proofs.Tryz
open Go.RowKit
section
variable {B Br bs bt z:Nat}{s:ByteArray}{body:List Tw.Tok}{N:List Tw.Rf.RN}{tv nv:Value}{root er:Int}
variable{sa:Tw.Rf.RS}
theorem Tv{w:World}{lv ev sv:Value}{env:List Bnd}{n a b:Nat}{d:Rf.RS}(h:ST w B bs bt sa.l sa.bad env lv ev sv)(c:oneS n a b sa=some d):
  Calls prog 131 #[pT bs,vI a,vI b] w λe f=>e=.returned (.tuple #[])/\TK B OfS w f/\ST f B bs bt d.l d.bad env lv ev sv:=by
 unfold oneS at c;obtain⟨r,k,c⟩:=zbE.1 c;cases c;refine(zl0 h (kB List.countP_le_length h.few) k).mono ?_;rintro e f ⟨g,i,j⟩;exact⟨g,Fy i,j⟩
theorem zfr{k:Nat}{x:RN}{pre post:List Bnd}{j r0:Nat}{an:Bool}{q:Nat×List RC}(hk:N[k]?=some x)(hbad:sa.bad=false)(hfe:(pre++(j,r0,an)::post).length<=100000)(hfirst:∀b∈pre,b.1≠j)(hsx:x.sort=120)(hbx:x.binder=(j:Int))
  (hways:(an=false/\q=(r0,sa.l))\/(an=true/\(∃n,Rf.Au n (Qo pre) r0 sa.l=some q)/\q.2.length<=5000000)) :
  OC B Br bs bt s body N tv nv root er z k (pre++(j,r0,an)::post) sa q.1 ⟨q.2,sa.bad⟩:=by
 intro w lv ev sv hz ht h;have HBX:=bV hbx;have HFI:=bV hfirst;clear hbx hfirst;have hklt:=(zlE.1 hk).1;have hfew:=ht.few;have cN:prog.cellsOf 276=9:=kR;obtain⟨_,_,t2,_,_⟩:=ht.cells;obtain⟨g,cap,rfl,d0,d1,d2,d3,d4,d5,d6,d7,d8,_⟩:=ht.node hk;obtain⟨a0,_,a2,_,_⟩:=h.cells;have hkl:(k:Int)<(N.length:Int):=oM;have hk0:¬(k:Int)<0:=oM;rw[hbad]at a2;obtain⟨so,hso⟩:∃so:Int,(x.sort:Int)=so:=⟨_,rfl⟩;rw[hso]at d0;have HSO:=bV hso;have HW:=bV hways;have H:=bV h;have HT:=bV ht;clear h ht hways hso hk
 go_in;go_upto_region 4 with fail;have g1:=zwA w (.cells #[vU so,vI x.a,vI x.b,vI x.c,vI x.first,vI x.last,vI x.name,vI x.binder,.bool false] 276) none;have n1:=Ac w (.cells #[vU so,vI x.a,vI x.b,vI x.c,vI x.first,vI x.last,vI x.name,vI x.binder,.bool false] 276);obtain⟨w1,hw1⟩:∃w1,w.alloc (.cells #[vU so,vI x.a,vI x.b,vI x.c,vI x.first,vI x.last,vI x.name,vI x.binder,.bool false] 276)=w1:=⟨_,rfl⟩;obtain⟨nb,hnb⟩:∃nb,w.heap.size=nb:=⟨_,rfl⟩;rw[hw1]at g1 n1;rw[hnb]at n1;rw[hw1,hnb];have S1:=bV (H.o.grown g1);have T1:=bV (HT.o.grown g1);have K1:=bV (TK.of_grown B OfS g1);have N1:=bV n1;have m0:w1.cell? (aD nb 0)=some (vU so):=zcR n1;clear g1 n1 hw1 hnb a0 a2 t2 d0 d1 d2 d3 d4 d5 d6 d7 d8 H HT;go_upto_region 5 with fail;obtain rfl:so=120:=by have:=HSO.o;omega
 have m7:w1.cell? (aD nb 7)=some (vI j):=by rw[mB _ _ _ _ _ _ N1.o,<-HBX.o];rfl
 have U:=bV (zm7 S1.o HFI.o hfe HW.o);clear HW;go_wp2_with fail;refine U.o.mono ?_;rintro e2 w2 ⟨rfl,hk2,lv2,hs2⟩;have S2:=bV hs2;have K2:=bV (K1.o.trans (Fy hk2));clear hk2 hs2;go_wp2_with fail;go_ret;exact⟨rfl,K2.o,_,_,_,oM,S2.o⟩
end
end
section
open Tw Tw.Rf Go.Proofs.Tryz
open Go.RowKit
section
variable {B Br bs bt z z1 z2:Nat}{s:ByteArray}{body:List Tw.Tok}{N:List Tw.Rf.RN}{tv nv:Value}{root er:Int}
theorem zkb{k:Nat}{x:RN}{E:List Bnd}{sa s1 s2 sb:Rf.RS}{r a b:Nat}(hk:N[k]?=some x)(hzz:z1+z2<=z)(hbad:sa.bad=false)(hlen:sb.l.length<=5000000)
  (hA:OC B Br bs bt s body N tv nv root er z1 x.a E sa a s1) (hB:OC B Br bs bt s body N tv nv root er z2 x.b E s1 b s2)
  (hways:(x.sort=44/\r=s2.l.length/\sb=s2.put ⟨42,a,b,none⟩)\/(x.sort=97/\r=s2.l.length/\∃n,oneS n a (s2.l.length+1) ((s2.put ⟨118,0,0,none⟩).put ⟨62,b,s2.l.length,none⟩)=some sb)) :
  OC B Br bs bt s body N tv nv root er z k E sa r sb:=by
 intro w lv ev sv hz ht h;have hklt:=(zlE.1 hk).1;have hfew:=ht.few;have cN:prog.cellsOf 276=9:=kR;obtain⟨_,_,t2,_,_⟩:=ht.cells;obtain⟨g,cap,rfl,d0,d1,d2,d3,d4,d5,d6,d7,d8,_⟩:=ht.node hk;obtain⟨a0,_,a2,_,_⟩:=h.cells;have hkl:(k:Int)<(N.length:Int):=oM;have hk0:¬(k:Int)<0:=oM;rw[hbad]at a2;obtain⟨so,hso⟩:∃so:Int,(x.sort:Int)=so:=⟨_,rfl⟩;rw[hso]at d0;have HSO:=bV hso;have HW:=bV hways;have H:=bV h;have HT:=bV ht
 go_in;go_upto_region 4 with fail;have g1:=zwA w (.cells #[vU so,vI x.a,vI x.b,vI x.c,vI x.first,vI x.last,vI x.name,vI x.binder,.bool false] 276) none;have n1:=Ac w (.cells #[vU so,vI x.a,vI x.b,vI x.c,vI x.first,vI x.last,vI x.name,vI x.binder,.bool false] 276);obtain⟨w1,hw1⟩:∃w1,w.alloc (.cells #[vU so,vI x.a,vI x.b,vI x.c,vI x.first,vI x.last,vI x.name,vI x.binder,.bool false] 276)=w1:=⟨_,rfl⟩;obtain⟨nb,hnb⟩:∃nb,w.heap.size=nb:=⟨_,rfl⟩;rw[hw1]at g1 n1;rw[hnb]at n1;rw[hw1,hnb];have S1:=bV (H.o.grown g1);have T1:=bV (HT.o.grown g1);have K1:=bV (TK.of_grown B OfS g1);have N1:=bV n1;have m0:w1.cell? (aD nb 0)=some (vU so):=zcR n1;go_upto_region 5 with fail;have m1:w1.cell? (aD nb 1)=some (vI x.a):=zcR N1.o;have HA:=bV hA;have HB:=bV hB;rcases HW.o with⟨hs,rfl,rfl⟩|⟨hs,rfl,n,hn⟩
 case' inl=>
  obtain rfl:so=44:=by have:=HSO.o;omega
  have hl2:s2.l.length+1<=5000000:=by simpa[Rf.RS.put]using hlen
 case' inr=>
  obtain rfl:so=97:=by have:=HSO.o;omega
  have HN:=bV hn;have hl2:s2.l.length+2<=5000000:=by have:=Ed hn;simp[Rf.RS.put]at this;omega
 all_goals
  go_wp2_with fail;refine(HA.o _ _ _ _ oM T1.o S1.o).mono ?_;rintro e2 w2 ⟨rfl,hk2,lv2,ev2,sv2,hv2,hs2⟩;have S2:=bV hs2;have T2:=bV (T1.o.tk hk2);have N2:=hk2.cells N1.o dZ;have K2:=bV (K1.o.trans hk2);have m2:w2.cell? (aD nb 2)=some (vI x.b):=zcR N2;go_wp2_with fail;refine(HB.o _ _ _ _ oM T2.o S2.o).mono ?_;rintro e3 w3 ⟨rfl,hk3,lv3,ev3,sv3,hv3,hs3⟩;have S3:=bV hs3;have K3:=bV (K2.o.trans hk3)
 rotate_left
 ·have AD:=bV (Ji S3.o ⟨42,a,b,none⟩ rfl 0 hl2);go_wp2_with fail;refine AD.o.mono ?_;rintro e4 w4 ⟨rfl,lv4,hf,hs4⟩;have S4:=bV hs4;have K4:=bV (K3.o.trans (Fy (SF.tk S3.o hf)));go_wp2_with fail;go_ret;exact⟨rfl,K4.o,_,_,_,oM,S4.o⟩
 ·have FR:=bV (Mq S3.o oM);go_wp2_with fail;refine FR.o.mono ?_;rintro e4 w4 ⟨rfl,lv4,hf,hs4⟩;have S4:=bV hs4;have K4:=bV (K3.o.trans (Fy (SF.tk S3.o hf)));have AD:=bV (Ji S4.o ⟨62,b,s2.l.length,none⟩ rfl 0 (by simpa using hl2));go_wp2_with fail;refine AD.o.mono ?_;rintro e5 w5 ⟨rfl,lv5,hf,hs5⟩;have K5:=bV (K4.o.trans (Fy (SF.tk S4.o hf)));have S5:Hid (ST w5 B bs bt ((s2.put ⟨118,0,0,none⟩).put ⟨62,b,s2.l.length,none⟩).l ((s2.put ⟨118,0,0,none⟩).put ⟨62,b,s2.l.length,none⟩).bad E lv5 ev3 sv3):=bV hs5;have hl5:(s2.l++[(⟨118,0,0,none⟩:RC)]).length=s2.l.length+1:=sM;have ON:=bV (Tv S5.o HN.o);go_wp2_with fail;refine ON.o.mono ?_;rintro e6 w6 ⟨rfl,hk6,hs6⟩;have S6:=bV hs6;have K6:=bV (K5.o.trans hk6);go_wp2_with fail;go_ret;exact⟨rfl,K6.o,_,_,_,oM,S6.o⟩
end
end
section
open Tw Tw.Rf Go.Proofs.Tryz
open Go.RowKit
section
variable {B Br bs bt z:Nat}{s:ByteArray}{body:List Tw.Tok}{N:List Tw.Rf.RN}{tv nv:Value}{root er:Int}
theorem zl3{k:Nat}{x:RN}{E:List Bnd}{sa sb:Rf.RS}{r:Nat}{second:Bool}(hk:N[k]?=some x)(hbad:sa.bad=false)(hlen:sa.l.length+4<=5000000)(hways:x.sort=if second then 50 else 49)(hr:r=sa.l.length+3)
  (hsb:sb=((((sa.put ⟨118,0,0,none⟩).put ⟨118,0,0,none⟩).put ⟨42,sa.l.length,sa.l.length+1,none⟩).put ⟨62,sa.l.length+2,if second then sa.l.length+1 else sa.l.length,none⟩)):OC B Br bs bt s body N tv nv root er z k E sa r sb:=by
 intro w lv ev sv hz ht h;have HR:=bV hr;have HSB:=bV hsb;have hklt:=(zlE.1 hk).1;have hfew:=ht.few;have cN:prog.cellsOf 276=9:=kR;obtain⟨_,_,t2,_,_⟩:=ht.cells;obtain⟨g,cap,rfl,d0,d1,d2,d3,d4,d5,d6,d7,d8,_⟩:=ht.node hk;obtain⟨a0,_,a2,_,_⟩:=h.cells;have hkl:(k:Int)<(N.length:Int):=oM;have hk0:¬(k:Int)<0:=oM;rw[hbad]at a2;obtain⟨so,hso⟩:∃so:Int,(x.sort:Int)=so:=⟨_,rfl⟩;rw[hso]at d0;have HSO:=bV hso;have HW:=bV hways;have H:=bV h;have HT:=bV ht
 go_in;go_upto_region 4 with fail;have g1:=zwA w (.cells #[vU so,vI x.a,vI x.b,vI x.c,vI x.first,vI x.last,vI x.name,vI x.binder,.bool false] 276) none;have n1:=Ac w (.cells #[vU so,vI x.a,vI x.b,vI x.c,vI x.first,vI x.last,vI x.name,vI x.binder,.bool false] 276);obtain⟨w1,hw1⟩:∃w1,w.alloc (.cells #[vU so,vI x.a,vI x.b,vI x.c,vI x.first,vI x.last,vI x.name,vI x.binder,.bool false] 276)=w1:=⟨_,rfl⟩;obtain⟨nb,hnb⟩:∃nb,w.heap.size=nb:=⟨_,rfl⟩;rw[hw1]at g1 n1;rw[hnb]at n1;rw[hw1,hnb];have S1:=bV (H.o.grown g1);have T1:=bV (HT.o.grown g1);have K1:=bV (TK.of_grown B OfS g1);have N1:=bV n1;have m0:w1.cell? (aD nb 0)=some (vU so):=zcR n1;go_upto_region 5 with fail;have hso:so=if second then 50 else 49:=by
  rw[<-HSO.o,HW.o];cases second<;>rfl
 obtain⟨l,bad⟩:=sa;simp only[Rf.RS.put]at hlen S1 HSB HR;have FR:=bV (Mq S1.o oM);obtain⟨L,hL⟩:∃L,l.length=L:=⟨_,rfl⟩;have HL:=bV hL;have e1:(l++[(⟨118,0,0,none⟩:RC)]).length=L+1:=by simp[hL]
 have e2:(l++[(⟨118,0,0,none⟩:RC)]++[(⟨118,0,0,none⟩:RC)]).length=L+2:=by simp[hL]
 have e3:(l++[(⟨118,0,0,none⟩:RC)]++[(⟨118,0,0,none⟩:RC)]++[(⟨42,L,L+1,none⟩:RC)]).length=L+3:=by simp[hL]
 rw[hL]at FR hlen HR HSB;obtain⟨l1,h1⟩:∃l1,l++[(⟨118,0,0,none⟩:RC)]=l1:=⟨_,rfl⟩;rw[h1]at FR e1 e2 e3 HSB;obtain⟨l2,h2⟩:∃l2,l1++[(⟨118,0,0,none⟩:RC)]=l2:=⟨_,rfl⟩;rw[h2]at e2 e3 HSB;obtain⟨l3,h3⟩:∃l3,l2++[(⟨42,L,L+1,none⟩:RC)]=l3:=⟨_,rfl⟩;rw[h3]at e3 HSB;obtain⟨l4,h4⟩:∃l4,l3++[(⟨62,L+2,if second then L+1 else L,none⟩:RC)]=l4:=⟨_,rfl⟩;rw[h4]at HSB;have E1:=bV e1;have E2:=bV e2;have E3:=bV e3;have H2:=bV h2;have H3:=bV h3;have H4:=bV h4;cases second
 all_goals
  first
   |(obtain rfl:so=49:=hso)
   |(obtain rfl:so=50:=hso)
  go_wp2_with fail;refine FR.o.mono ?_;rintro e2 w2 ⟨rfl,lv2,hf,hs2⟩;have F2:=bV (Mq hs2 (by rw[E1.o];omega));rw[E1.o,H2.o]at F2;have N2:=(Fy (SF.tk S1.o hf)).cells N1.o dZ;have K2:=bV (K1.o.trans (Fy (SF.tk S1.o hf)));have S2:=bV hs2;have N2:=bV N2;go_wp2_with fail;refine F2.o.mono ?_;rintro e3 w3 ⟨rfl,lv3,hf,hs3⟩;have A3:=bV (Ji hs3 ⟨42,L,L+1,none⟩ rfl 0 (by rw[E2.o];omega));rw[E2.o,H3.o]at A3;have N3:=(Fy (SF.tk S2.o hf)).cells N2.o dZ;have K3:=bV (K2.o.trans (Fy (SF.tk S2.o hf)));have S3:=bV hs3;have N3:=bV N3;go_wp2_with fail;refine A3.o.mono ?_;rintro e4 w4 ⟨rfl,lv4,hf,hs4⟩;have N4:=(Fy (SF.tk S3.o hf)).cells N3.o dZ;have K4:=bV (K3.o.trans (Fy (SF.tk S3.o hf)));have S4:=bV hs4;have m4:=N4
  first
   |have A4:=bV (Ji S4.o ⟨62,L+2,L,none⟩ rfl 0 (by rw[E3.o];omega))
    rw[E3.o,show l3++[(⟨62,L+2,L,none⟩:RC)]=l4 from H4.o]at A4
   |have A4:=bV (Ji S4.o ⟨62,L+2,L+1,none⟩ rfl 0 (by rw[E3.o];omega))
    rw[E3.o,show l3++[(⟨62,L+2,L+1,none⟩:RC)]=l4 from H4.o]at A4
  have m0:w4.cell? (aD nb 0)=some (vU _):=(mB _ _ _ _ _ _ N4);go_wp2_with fail;refine A4.o.mono ?_;rintro e5 w5 ⟨rfl,lv5,hf,hs5⟩;have K5:=bV (K4.o.trans (Fy (SF.tk S4.o hf)));have S5:=bV hs5;go_wp2_with fail;go_ret;exact⟨by rw[HR.o];rfl,K5.o,lv5,ev,sv,oM,by rw[HSB.o];exact S5.o⟩
end
end
section
open Tw Tw.Rf Go.Proofs.Tryz
open Go.RowKit
section
variable {B Br bs bt z z1 z2:Nat}{s:ByteArray}{body:List Tw.Tok}{N:List Tw.Rf.RN}{tv nv:Value}{root er:Int}
theorem zm9{k:Nat}{x:RN}{E:List Bnd}{sa s1 s2 s4 s5 sb:Rf.RS}{r a b n:Nat}(hk:N[k]?=some x)(hzz:z1+z2<=z)(hbad:sa.bad=false)(hlen:sb.l.length<=5000000)
  (hA:OC B Br bs bt s body N tv nv root er z1 x.a E sa a s1) (hB:OC B Br bs bt s body N tv nv root er z2 x.b E s1 b s2) (h4:oneS n a s2.l.length (s2.put ⟨105,0,0,none⟩)=some s4) (h5:oneS n b s2.l.length s4=some s5)
  (hways:((x.sort=60\/x.sort=61)/\r=s5.l.length/\sb=s5.put ⟨98,0,0,none⟩)\/((x.sort=43\/x.sort=45\/x.sort=42\/x.sort=47)/\r=s2.l.length/\sb=s5)) :
  OC B Br bs bt s body N tv nv root er z k E sa r sb:=by
 intro w lv ev sv hz ht h;have hklt:=(zlE.1 hk).1;have hfew:=ht.few;have cN:prog.cellsOf 276=9:=kR;obtain⟨_,_,t2,_,_⟩:=ht.cells;obtain⟨g,cap,rfl,d0,d1,d2,d3,d4,d5,d6,d7,d8,_⟩:=ht.node hk;obtain⟨a0,_,a2,_,_⟩:=h.cells;have hkl:(k:Int)<(N.length:Int):=oM;have hk0:¬(k:Int)<0:=oM;rw[hbad]at a2;obtain⟨so,hso⟩:∃so:Int,(x.sort:Int)=so:=⟨_,rfl⟩;rw[hso]at d0;have HSO:=bV hso;have HW:=bV hways;have H:=bV h;have HT:=bV ht;clear h ht hways hso hk
 go_in;go_upto_region 4 with fail;have g1:=zwA w (.cells #[vU so,vI x.a,vI x.b,vI x.c,vI x.first,vI x.last,vI x.name,vI x.binder,.bool false] 276) none;have n1:=Ac w (.cells #[vU so,vI x.a,vI x.b,vI x.c,vI x.first,vI x.last,vI x.name,vI x.binder,.bool false] 276);obtain⟨w1,hw1⟩:∃w1,w.alloc (.cells #[vU so,vI x.a,vI x.b,vI x.c,vI x.first,vI x.last,vI x.name,vI x.binder,.bool false] 276)=w1:=⟨_,rfl⟩;obtain⟨nb,hnb⟩:∃nb,w.heap.size=nb:=⟨_,rfl⟩;rw[hw1]at g1 n1;rw[hnb]at n1;rw[hw1,hnb];have S1:=bV (H.o.grown g1);have T1:=bV (HT.o.grown g1);have K1:=bV (TK.of_grown B OfS g1);have N1:=bV n1;have m0:w1.cell? (aD nb 0)=some (vU so):=zcR n1;clear g1 n1 hw1 hnb a0 a2 t2 d0 d1 d2 d3 d4 d5 d6 d7 d8 H HT;go_upto_region 5 with fail;have m1:w1.cell? (aD nb 1)=some (vI x.a):=zcR N1.o;have HA:=bV hA;have HB:=bV hB;have H4:=bV h4;have H5:=bV h5;have l4:=Ed h4;have l5:=Ed h5;simp[Rf.RS.put]at l4;have hno:((so==120)=false/\(so==105)=false/\(so==116)=false/\(so==102)=false)/\((so==49)=false/\(so==50)=false/\(so==103)=false/\(so==44)=false)/\((so==97)=false/\(so==70)=false/\(so==73)=false/\(so==108)=false/\(so==114)=false):=by
  have:=HSO.o;rcases HW.o with⟨h,_⟩|⟨h,_⟩<;>(simp;omega)
 obtain⟨⟨n1,n2,n3,n4⟩,⟨n5,n6,n7,n8⟩,⟨n9,n10,n11,n12,n13⟩⟩:=hno;have hl2:s2.l.length+1<=5000000:=by
  rcases HW.o with⟨_,_,rfl⟩|⟨_,_,rfl⟩
  ·simp[Rf.RS.put]at hlen;omega
  ·omega
 have L4:=bV l4;have L5:=bV l5;clear hA hB h4 h5 l4 l5;go_wp2_with fail;refine(HA.o _ _ _ _ oM T1.o S1.o).mono ?_;rintro e2 w2 ⟨rfl,hk2,lv2,ev2,sv2,hv2,hs2⟩;have S2:=bV hs2;have T2:=bV (T1.o.tk hk2);have N2:=hk2.cells N1.o dZ;have K2:=bV (K1.o.trans hk2);have m2:w2.cell? (aD nb 2)=some (vI x.b):=zcR N2;have N2:=bV N2;clear hk2 hs2 m0 m1 S1 T1 K1 N1 HA;go_wp2_with fail;refine(HB.o _ _ _ _ oM T2.o S2.o).mono ?_;rintro e3 w3 ⟨rfl,hk3,lv3,ev3,sv3,hv3,hs3⟩;have S3:=bV hs3;have N3:=bV (hk3.cells N2.o dZ);have K3:=bV (K2.o.trans hk3);have AD:=bV (Ji hs3 ⟨105,0,0,none⟩ rfl 0 hl2);clear hk3 hs3 m2 S2 T2 K2 HB N2;go_wp2_with fail;refine AD.o.mono ?_;rintro e4 w4 ⟨rfl,lv4,hf,hs4⟩;have N4:=bV ((Fy (SF.tk S3.o hf)).cells N3.o dZ);have K4:=bV (K3.o.trans (Fy (SF.tk S3.o hf)));have ON:=bV (Tv (sa:=s2.put ⟨105,0,0,none⟩) hs4 H4.o);clear hf hs4 AD S3 K3 N3;go_wp2_with fail;refine ON.o.mono ?_;rintro e5 w5 ⟨rfl,hk5,hs5⟩;have N5:=bV (hk5.cells N4.o dZ);have K5:=bV (K4.o.trans hk5);have OM:=bV (Tv hs5 H5.o);clear hk5 hs5 ON K4 N4;go_wp2_with fail;refine OM.o.mono ?_;rintro e6 w6 ⟨rfl,hk6,hs6⟩;have N6:=hk6.cells N5.o dZ;have m6:w6.cell? (aD nb 0)=some (vU so):=zcR N6;have K6:=bV (K5.o.trans hk6);have S6:=bV hs6;clear hk6 hs6 OM K5 N5 N6 n1 n2 n3 n4 n5 n6 n7 n8 n9 n10 n11 n12 n13;rcases HW.o with⟨hs,rfl,rfl⟩|⟨hs,rfl,rfl⟩
 ·have hbw:(so==60)=true\/((so==60)=false/\(so==61)=true):=by
   have:=HSO.o;simp;omega
  have A7:=bV (Ji S6.o ⟨98,0,0,none⟩ rfl 0 (by simpa[Rf.RS.put]using hlen));clear hs HW;rcases hbw with hb1|⟨hb1,hb2⟩
  all_goals
   go_wp2_with fail;refine A7.o.mono ?_;rintro e7 w7 ⟨rfl,lv7,hf,hs7⟩;have S7:=bV hs7;have K7:=bV (K6.o.trans (Fy (SF.tk S6.o hf)));clear hf hs7 A7;go_wp2_with fail;go_ret;exact⟨rfl,K7.o,_,_,_,oM,S7.o⟩
 ·have hb1:(so==60)=false:=by have:=HSO.o;simp;omega
  have hb2:(so==61)=false:=by have:=HSO.o;simp;omega
  clear hs HW;go_wp2_with fail;go_ret;exact⟨rfl,K6.o,_,_,_,oM,S6.o⟩
end
end
section
open Tw Tw.Rf Go.Proofs.Tryz
open Go.RowKit
section
variable {B Br bs bt z z1 z2 z3:Nat}{s:ByteArray}{body:List Tw.Tok}{N:List Tw.Rf.RN}{tv nv:Value}{root er:Int}
theorem zl4{k:Nat}{x:RN}{E:List Bnd}{sa s1 s3 s4 s5 sb:Rf.RS}{c a b n:Nat}(hk:N[k]?=some x)(hzz:z1+z2+z3<=z)(hbad:sa.bad=false)(hlen:s1.l.length+1<=5000000)
  (hA:OC B Br bs bt s body N tv nv root er z1 x.a E sa c s1) (h3:oneS n c s1.l.length (s1.put ⟨98,0,0,none⟩)=some s3) (hB:OC B Br bs bt s body N tv nv root er z2 x.b E s3 a s4) (hC:OC B Br bs bt s body N tv nv root er z3 x.c E s4 b s5) (h5:oneS n a b s5=some sb)
  (hways:x.sort=73):OC B Br bs bt s body N tv nv root er z k E sa a sb:=by
 intro w lv ev sv hz ht h;have hklt:=(zlE.1 hk).1;have hfew:=ht.few;have cN:prog.cellsOf 276=9:=kR;obtain⟨_,_,t2,_,_⟩:=ht.cells;obtain⟨g,cap,rfl,d0,d1,d2,d3,d4,d5,d6,d7,d8,_⟩:=ht.node hk;obtain⟨a0,_,a2,_,_⟩:=h.cells;have hkl:(k:Int)<(N.length:Int):=oM;have hk0:¬(k:Int)<0:=oM;rw[hbad]at a2;obtain⟨so,hso⟩:∃so:Int,(x.sort:Int)=so:=⟨_,rfl⟩;rw[hso]at d0;have HSO:=bV hso;have HW:=bV hways;have H:=bV h;have HT:=bV ht
 go_in;go_upto_region 4 with fail;have g1:=zwA w (.cells #[vU so,vI x.a,vI x.b,vI x.c,vI x.first,vI x.last,vI x.name,vI x.binder,.bool false] 276) none;have n1:=Ac w (.cells #[vU so,vI x.a,vI x.b,vI x.c,vI x.first,vI x.last,vI x.name,vI x.binder,.bool false] 276);obtain⟨w1,hw1⟩:∃w1,w.alloc (.cells #[vU so,vI x.a,vI x.b,vI x.c,vI x.first,vI x.last,vI x.name,vI x.binder,.bool false] 276)=w1:=⟨_,rfl⟩;obtain⟨nb,hnb⟩:∃nb,w.heap.size=nb:=⟨_,rfl⟩;rw[hw1]at g1 n1;rw[hnb]at n1;rw[hw1,hnb];have S1:=bV (H.o.grown g1);have T1:=bV (HT.o.grown g1);have K1:=bV (TK.of_grown B OfS g1);have N1:=bV n1;have m0:w1.cell? (aD nb 0)=some (vU so):=zcR n1;go_upto_region 5 with fail;obtain rfl:so=73:=by have:=HSO.o;have:=HW.o;omega
 have m1:w1.cell? (aD nb 1)=some (vI x.a):=zcR N1.o;have HA:=bV hA;have HB:=bV hB;have HC:=bV hC;have H3:=bV h3;have H5:=bV h5;go_wp2_with fail;refine(HA.o _ _ _ _ oM T1.o S1.o).mono ?_;rintro e2 w2 ⟨rfl,hk2,lv2,ev2,sv2,hv2,hs2⟩;have S2:=bV hs2;have T2:=bV (T1.o.tk hk2);have N2:=bV (hk2.cells N1.o dZ);have K2:=bV (K1.o.trans hk2);have AD:=bV (Ji hs2 ⟨98,0,0,none⟩ rfl 0 hlen);go_wp2_with fail;refine AD.o.mono ?_;rintro e3 w3 ⟨rfl,lv3,hf,hs3⟩;have k3:=Fy (SF.tk S2.o hf);have N3:=bV (k3.cells N2.o dZ);have T3:=bV (T2.o.tk k3);have K3:=bV (K2.o.trans k3);have ON:=bV (Tv (sa:=s1.put ⟨98,0,0,none⟩) hs3 H3.o);go_wp2_with fail;refine ON.o.mono ?_;rintro e4 w4 ⟨rfl,hk4,hs4⟩;have N4:=hk4.cells N3.o dZ;have T4:=bV (T3.o.tk hk4);have K4:=bV (K3.o.trans hk4);have S4:=bV hs4;have m2:w4.cell? (aD nb 2)=some (vI x.b):=zcR N4;have N4:=bV N4;go_wp2_with fail;refine(HB.o _ _ _ _ oM T4.o S4.o).mono ?_;rintro e5 w5 ⟨rfl,hk5,lv5,ev5,sv5,hv5,hs5⟩;have S5:=bV hs5;have T5:=bV (T4.o.tk hk5);have N5:=hk5.cells N4.o dZ;have m3:w5.cell? (aD nb 3)=some (vI x.c):=zcR N5;have K5:=bV (K4.o.trans hk5);go_wp2_with fail;refine(HC.o _ _ _ _ oM T5.o S5.o).mono ?_;rintro e6 w6 ⟨rfl,hk6,lv6,ev6,sv6,hv6,hs6⟩;have K6:=bV (K5.o.trans hk6);have OM:=bV (Tv hs6 H5.o);go_wp2_with fail;refine OM.o.mono ?_;rintro e7 w7 ⟨rfl,hk7,hs7⟩;have K7:=bV (K6.o.trans hk7);have S7:=bV hs7;go_wp2_with fail;go_ret;exact⟨rfl,K7.o,_,_,_,oM,S7.o⟩
end
end
section
open Tw Tw.Rf Go.Proofs.Tryz
open Go.RowKit
section
variable {w w5:World}{B bs bt:Nat}{l:List Tw.Rf.RC}{bad:Bool}{env:List Bnd}{lv ev sv:Value}
theorem ST.push(h:ST w B bs bt l bad env lv ev sv){e:List Nat}{a g cap:Nat}(p:w.ownsRow B 3 1 sv e.length (e.map λf:Nat=>vI f))(o:w5.ownsRow B 3 1 (sL g (e.length+1) cap) (e.length+1) (e.map (λf:Nat=>vI f)++[vI a]))(j:w.grownBy w5 sv.ownBlock):
  w5.cell? (aD bs 4)=some sv/\w5.frozen? (aD bs 4)=false/\ST (w5.setCell (aD bs 4) (sL g (e.length+1) cap)) B bs bt l bad env lv ev (sL g (e.length+1) cap)/\TK B OfS w (w5.setCell (aD bs 4) (sL g (e.length+1) cap)):=by
 have k:∀(g:Nat) {m:TypeId} (c:Array Value),m≠3->w.heap[g]?=some (Obj.cells c m (0,0))->w5.heap[g]?=some (Obj.cells c m (0,0)):=λg _ c v d=>Dv p j d v;have n:=k _ _ dZ h.store;have keep:∀ {q:Nat} {c:Array Value} {m:TypeId},m≠155->w5.heap[q]?=some (.cells c m (0,0))->(w5.setCell (aD bs 4) (sL g (e.length+1) cap)).heap[q]?=some (.cells c m (0,0)):=λ{q c m} v d=>(aA w5 (aD bs 4) q _ (by rintro rfl;rw[n]at d;cases d;exact v rfl)).trans d;refine⟨zcR n,eB _ _ _ _ _ n,⟨Bo n _,Ag h.types λg c d=>keep dZ (k g c dZ d),Ag h.envs λg c d=>keep dZ (k g c dZ d),⟨e++[a],?_⟩,h.low,h.few⟩,?_⟩
 ·have C:=Ag o λg c d=>keep dZ d;rw[eA,vB];exact C
 ·refine TK.trans ?_ (Fy (Sr n h.low _));exact{
   low:=λ{k} I D=>j.block k D (λi=>by have:=(p.lt k i.symm).1;omega)
   os:=j.os
   tape:=j.tape
   output:=j.output
   size:=j.size
   cells:=λd A=>Dv p j d (λi=>by rw[i]at A;revert A;decide)
   other:=λ{k J} o F=>(j.block k (zgE.1 o).1 (λi=>by
    rcases p.2 with⟨t,_⟩|⟨H,cap,G,t,_,y,_⟩
    ·rw[t]at i;simp[Value.ownBlock]at i
    ·rw[t]at i;simp[Value.ownBlock]at i;subst i;rw[o]at y;cases y;exact F _ _ _ rfl)).trans o}
theorem ST.sform(h:ST w B bs bt l bad env lv ev sv):∃(a:List Nat) (p:Option Addr) (c:Nat),sv=.slice p a.length c/\w.ownsRow B 3 1 sv a.length (a.map λf:Nat=>vI f):=by
 obtain⟨a,e⟩:=h.seen;rcases e.2 with⟨d,g⟩|⟨j,i,_,d,_⟩
 ·exact⟨a,_,_,by rw[d,g],e⟩
 ·exact⟨a,_,_,d,e⟩
end
section
variable {B Br bs bt z z1 z2:Nat}{s:ByteArray}{body:List Tw.Tok}{N:List Tw.Rf.RN}{tv nv:Value}{root er:Int}
variable{k b r:Nat}{x:Tw.Rf.RN}{E:List Bnd}{sa s2 sb:Tw.Rf.RS}
theorem znk(hk:N[k]?=some x)(hbad:sa.bad=false)(hlen:sa.l.length+1<=5000000)(hlen2:s2.l.length+1<=5000000)
  (hA:WiC B Br bs bt s body N tv nv root er z ((k:Nat),sa.l.length,false) x.a E (sa.put ⟨118,0,0,none⟩) b s2) (hways:x.sort=70):OC B Br bs bt s body N tv nv root er z k E sa s2.l.length (s2.put ⟨62,sa.l.length,b,none⟩):=by
 intro w lv ev sv hz ht h;have hklt:=(zlE.1 hk).1;have hfew:=ht.few;have cN:prog.cellsOf 276=9:=kR;obtain⟨_,_,t2,_,_⟩:=ht.cells;obtain⟨g,cap,rfl,d0,d1,d2,d3,d4,d5,d6,d7,d8,_⟩:=ht.node hk;obtain⟨a0,_,a2,_,_⟩:=h.cells;have hkl:(k:Int)<(N.length:Int):=oM;have hk0:¬(k:Int)<0:=oM;rw[hbad]at a2;obtain⟨so,hso⟩:∃so:Int,(x.sort:Int)=so:=⟨_,rfl⟩;rw[hso]at d0;have HSO:=bV hso;have HW:=bV hways;have H:=bV h;have HT:=bV ht
 go_in;go_upto_region 4 with fail;have g1:=zwA w (.cells #[vU so,vI x.a,vI x.b,vI x.c,vI x.first,vI x.last,vI x.name,vI x.binder,.bool false] 276) none;have n1:=Ac w (.cells #[vU so,vI x.a,vI x.b,vI x.c,vI x.first,vI x.last,vI x.name,vI x.binder,.bool false] 276);obtain⟨w1,hw1⟩:∃w1,w.alloc (.cells #[vU so,vI x.a,vI x.b,vI x.c,vI x.first,vI x.last,vI x.name,vI x.binder,.bool false] 276)=w1:=⟨_,rfl⟩;obtain⟨nb,hnb⟩:∃nb,w.heap.size=nb:=⟨_,rfl⟩;rw[hw1]at g1 n1;rw[hnb]at n1;rw[hw1,hnb];have S1:=bV (H.o.grown g1);have T1:=bV (HT.o.grown g1);have K1:=bV (TK.of_grown B OfS g1);have N1:=bV n1;have m0:w1.cell? (aD nb 0)=some (vU so):=zcR n1;go_upto_region 5 with fail;obtain rfl:so=70:=by have:=HSO.o;have:=HW.o;omega
 have HA:=bV hA;have FR:=bV (Mq S1.o hlen);go_wp2_with fail;refine FR.o.mono ?_;rintro e2 w2 ⟨rfl,lv2,hf,hs2⟩;have k2:=Fy (SF.tk S1.o hf);have S2:=bV hs2;have T2:=bV (T1.o.tk k2);have N2:=k2.cells N1.o dZ;have K2:=bV (K1.o.trans k2);have m1:w2.cell? (aD nb 1)=some (vI x.a):=zcR N2;go_wp2_with fail;refine(HA.o _ _ _ _ hz T2.o S2.o).mono ?_;rintro e3 w3 ⟨rfl,hk3,lv3,ev3,sv3,hv3,hs3⟩;have S3:=bV hs3;have K3:=bV (K2.o.trans hk3);have AD:=bV (Ji hs3 ⟨62,sa.l.length,b,none⟩ rfl 0 hlen2);go_wp2_with fail;refine AD.o.mono ?_;rintro e4 w4 ⟨rfl,lv4,hf,hs4⟩;have S4:=bV hs4;have K4:=bV (K3.o.trans (Fy (SF.tk S3.o hf)));go_wp2_with fail;go_ret;exact⟨rfl,K4.o,_,_,_,oM,S4.o⟩
theorem zna{s1:Rf.RS}{a:Nat}(hzz:z1+1+z2<=z)(hk:N[k]?=some x)(hbad:sa.bad=false)
  (hA:OC B Br bs bt s body N tv nv root er z1 x.a E sa a s1) (hB:WiC B Br bs bt s body N tv nv root er z2 ((k:Nat),a,true) x.b E s1 r sb) (hways:x.sort=108):OC B Br bs bt s body N tv nv root er z k E sa r sb:=by
 intro w lv ev sv hz ht h;have hklt:=(zlE.1 hk).1;have hfew:=ht.few;have cN:prog.cellsOf 276=9:=kR;obtain⟨_,_,t2,_,_⟩:=ht.cells;obtain⟨g,cap,rfl,d0,d1,d2,d3,d4,d5,d6,d7,d8,_⟩:=ht.node hk;obtain⟨a0,_,a2,_,_⟩:=h.cells;have hkl:(k:Int)<(N.length:Int):=oM;have hk0:¬(k:Int)<0:=oM;rw[hbad]at a2;obtain⟨so,hso⟩:∃so:Int,(x.sort:Int)=so:=⟨_,rfl⟩;rw[hso]at d0;have HSO:=bV hso;have HW:=bV hways;have H:=bV h;have HT:=bV ht
 go_in;go_upto_region 4 with fail;have g1:=zwA w (.cells #[vU so,vI x.a,vI x.b,vI x.c,vI x.first,vI x.last,vI x.name,vI x.binder,.bool false] 276) none;have n1:=Ac w (.cells #[vU so,vI x.a,vI x.b,vI x.c,vI x.first,vI x.last,vI x.name,vI x.binder,.bool false] 276);obtain⟨w1,hw1⟩:∃w1,w.alloc (.cells #[vU so,vI x.a,vI x.b,vI x.c,vI x.first,vI x.last,vI x.name,vI x.binder,.bool false] 276)=w1:=⟨_,rfl⟩;obtain⟨nb,hnb⟩:∃nb,w.heap.size=nb:=⟨_,rfl⟩;rw[hw1]at g1 n1;rw[hnb]at n1;rw[hw1,hnb];have S1:=bV (H.o.grown g1);have T1:=bV (HT.o.grown g1);have K1:=bV (TK.of_grown B OfS g1);have N1:=bV n1;have m0:w1.cell? (aD nb 0)=some (vU so):=zcR n1;go_upto_region 5 with fail;obtain rfl:so=108:=by have:=HSO.o;have:=HW.o;omega
 have hii:(prog.info? 3).map (λi=>(i.zero,i.size,i.bytes))=some (some (vI 0),1,8):=kR;obtain⟨i0,hi,hz0,hz1,hz2⟩:=info_parts hii;have m1:w1.cell? (aD nb 1)=some (vI x.a):=zcR N1.o;have HA:=bV hA;have HBB:=bV hB;go_wp2_with fail;refine(HA.o _ _ _ _ oM T1.o S1.o).mono ?_;rintro e2 w2 ⟨rfl,hk2,lv2,ev2,sv2,hv2,hs2⟩;have S2:=bV hs2;have T2:=bV (T1.o.tk hk2);have N2:=bV (hk2.cells N1.o dZ);have K2:=bV (K1.o.trans hk2);obtain⟨sn,p,c,rfl,hsn⟩:=S2.o.sform;have ga:=zwA w2 (.cells #[vI a] 3) none;have SA:=bV (S2.o.grown ga);have OA:=bV (A6 hsn ga);have KA:=bV (TK.of_grown B OfS ga);have HB:Hid (B<=(w2.alloc (.cells #[vI a] 3)).heap.size):=bV (by have h1:=SA.o.low;have h2:=(zgE.1 SA.o.store).1;omega);have hv2':sn.length<=Kx sv+z1:=hv2;have hmx:sn.length+1<=maxLen:=by unfold maxLen;omega
 obtain⟨_,_,_,_,cs⟩:=S2.o.cells;go_upto_region 48 with(at_builtin;refine wpList_append_lies _ rfl _ _ 33 rfl B 3 i0 (vI 0) 1 8 underlying33 hi hz0 hz1 hz2 rfl dZ (.slice p sn.length c) sn.length (sn.map λf:Nat=>vI f) rfl OA.o (aD w2.heap.size 0) 1 1 [vI a] rfl rfl (H9 _ _ _) (by intro u hu;simp at hu;subst hu;rfl) dZ hmx oM HB.o _ rfl ?_;intro g5 cap5 w5 hown5 hgrow5 _ _;obtain⟨cz,fz,X5,K5⟩:=SA.o.push OA.o hown5 hgrow5;have X5:=bV X5;have K5:=bV (KA.o.trans K5);clear hown5 hgrow5);have T5:=bV (T2.o.tk K5.o);have N5:=K5.o.cells N2.o dZ;have K6:=bV (K2.o.trans K5.o);obtain⟨w6,hw6⟩:∃w6,w5.setCell (aD bs 4) (sL g5 (sn.length+1) cap5)=w6:=⟨_,rfl⟩;rw[hw6]at T5 N5 K6 X5;rw[hw6];have m2:w6.cell? (aD nb 2)=some (vI x.b):=zcR N5;go_wp2_with fail;refine(HBB.o _ _ _ _ (by simp[Kx];omega) T5.o X5.o).mono ?_;rintro e7 w7 ⟨rfl,hk7,lv7,ev7,sv7,hv7,hs7⟩;have S7:=bV hs7;have K7:=bV (K6.o.trans hk7);have hv7:Kx sv7<=sn.length+1+z2:=hv7;go_wp2_with fail;go_ret;exact⟨rfl,K7.o,_,_,_,oM,S7.o⟩
theorem znb{s3:Rf.RS}{n:Nat}(hzz:z1+1+z2<=z)(hk:N[k]?=some x)(hbad:sa.bad=false)(hlen:sa.l.length+1<=5000000)
  (hA:WiC B Br bs bt s body N tv nv root er z1 ((k:Nat),sa.l.length,false) x.a E (sa.put ⟨118,0,0,none⟩) b s2) (h3:oneS n sa.l.length b s2=some s3) (hB:WiC B Br bs bt s body N tv nv root er z2 ((k:Nat),sa.l.length,true) x.b E s3 r sb) (hways:x.sort=114):OC B Br bs bt s body N tv nv root er z k E sa r sb:=by
 intro w lv ev sv hz ht h;have hklt:=(zlE.1 hk).1;have hfew:=ht.few;have cN:prog.cellsOf 276=9:=kR;obtain⟨_,_,t2,_,_⟩:=ht.cells;obtain⟨g,cap,rfl,d0,d1,d2,d3,d4,d5,d6,d7,d8,_⟩:=ht.node hk;obtain⟨a0,_,a2,_,_⟩:=h.cells;have hkl:(k:Int)<(N.length:Int):=oM;have hk0:¬(k:Int)<0:=oM;rw[hbad]at a2;obtain⟨so,hso⟩:∃so:Int,(x.sort:Int)=so:=⟨_,rfl⟩;rw[hso]at d0;have HSO:=bV hso;have HW:=bV hways;have H:=bV h;have HT:=bV ht
 go_in;go_upto_region 4 with fail;have g1:=zwA w (.cells #[vU so,vI x.a,vI x.b,vI x.c,vI x.first,vI x.last,vI x.name,vI x.binder,.bool false] 276) none;have n1:=Ac w (.cells #[vU so,vI x.a,vI x.b,vI x.c,vI x.first,vI x.last,vI x.name,vI x.binder,.bool false] 276);obtain⟨w1,hw1⟩:∃w1,w.alloc (.cells #[vU so,vI x.a,vI x.b,vI x.c,vI x.first,vI x.last,vI x.name,vI x.binder,.bool false] 276)=w1:=⟨_,rfl⟩;obtain⟨nb,hnb⟩:∃nb,w.heap.size=nb:=⟨_,rfl⟩;rw[hw1]at g1 n1;rw[hnb]at n1;rw[hw1,hnb];have S1:=bV (H.o.grown g1);have T1:=bV (HT.o.grown g1);have K1:=bV (TK.of_grown B OfS g1);have N1:=bV n1;have m0:w1.cell? (aD nb 0)=some (vU so):=zcR n1;go_upto_region 5 with fail;obtain rfl:so=114:=by have:=HSO.o;have:=HW.o;omega
 have hii:(prog.info? 3).map (λi=>(i.zero,i.size,i.bytes))=some (some (vI 0),1,8):=kR;obtain⟨i0,hi,hz0,hz1,hz2⟩:=info_parts hii;have HA:=bV hA;have HBB:=bV hB;have H3:=bV h3;have FR:=bV (Mq S1.o hlen);go_wp2_with fail;refine FR.o.mono ?_;rintro e2 w2 ⟨rfl,lv2,hf,hs2⟩;have k2:=Fy (SF.tk S1.o hf);have S2:=bV hs2;have T2:=bV (T1.o.tk k2);have N2:=k2.cells N1.o dZ;have K2:=bV (K1.o.trans k2);have m1:w2.cell? (aD nb 1)=some (vI x.a):=zcR N2;have N2:=bV N2;go_wp2_with fail;refine(HA.o _ _ _ _ oM T2.o S2.o).mono ?_;rintro e3 w3 ⟨rfl,hk3,lv3,ev3,sv3,hv3,hs3⟩;have T3:=bV (T2.o.tk hk3);have N3:=bV (hk3.cells N2.o dZ);have K3:=bV (K2.o.trans hk3);have ON:=bV (Tv hs3 H3.o);go_wp2_with fail;refine ON.o.mono ?_;rintro e4 w4 ⟨rfl,hk4,hs4⟩;have S4:=bV hs4;have T4:=bV (T3.o.tk hk4);have N4:=bV (hk4.cells N3.o dZ);have K4:=bV (K3.o.trans hk4);obtain⟨sn,p,c,rfl,hsn⟩:=S4.o.sform;have ga:=zwA w4 (.cells #[vI sa.l.length] 3) none;have SA:=bV (S4.o.grown ga);have OA:=bV (A6 hsn ga);have KA:=bV (TK.of_grown B OfS ga);have HB:Hid (B<=(w4.alloc (.cells #[vI sa.l.length] 3)).heap.size):=bV (by have h1:=SA.o.low;have h2:=(zgE.1 SA.o.store).1;omega);have hv3':sn.length<=Kx sv+z1:=hv3;have hmx:sn.length+1<=maxLen:=by unfold maxLen;omega
 obtain⟨_,_,_,_,cs⟩:=S4.o.cells;go_upto_region 54 with(at_builtin;refine wpList_append_lies _ rfl _ _ 33 rfl B 3 i0 (vI 0) 1 8 underlying33 hi hz0 hz1 hz2 rfl dZ (.slice p sn.length c) sn.length (sn.map λf:Nat=>vI f) rfl OA.o (aD w4.heap.size 0) 1 1 [vI sa.l.length] rfl rfl (H9 _ _ _) (by intro u hu;simp at hu;subst hu;rfl) dZ hmx oM HB.o _ rfl ?_;intro g5 cap5 w5 hown5 hgrow5 _ _;obtain⟨cz,fz,X5,K5⟩:=SA.o.push OA.o hown5 hgrow5;have X5:=bV X5;have K5:=bV (KA.o.trans K5);clear hown5 hgrow5);have T5:=bV (T4.o.tk K5.o);have N5:=K5.o.cells N4.o dZ;have K6:=bV (K4.o.trans K5.o);obtain⟨w6,hw6⟩:∃w6,w5.setCell (aD bs 4) (sL g5 (sn.length+1) cap5)=w6:=⟨_,rfl⟩;rw[hw6]at T5 N5 K6 X5;rw[hw6];have m2:w6.cell? (aD nb 2)=some (vI x.b):=zcR N5;go_wp2_with fail;refine(HBB.o _ _ _ _ (by simp[Kx];omega) T5.o X5.o).mono ?_;rintro e7 w7 ⟨rfl,hk7,lv7,ev7,sv7,hv7,hs7⟩;have S7:=bV hs7;have K7:=bV (K6.o.trans hk7);have hv7:Kx sv7<=sn.length+1+z2:=hv7;go_wp2_with fail;go_ret;exact⟨rfl,K7.o,_,_,_,oM,S7.o⟩
end
end
section
open Tw Tw.Rf
open Go.RowKit
namespace Tw
def SgOk:T->Prop
 |.name ..|.int ..|.truth ..|.side .. =>True
 |.bracket _ _ i=>SgOk i
 |.pair _ _ l r|.call _ _ l r=>SgOk l/\SgOk r
 |.binary _ _ sg l r=>(sg=19\/sg=20\/sg=21\/sg=22\/sg=23\/sg=15)/\SgOk l/\SgOk r
 |.cond _ _ c t f=>SgOk c/\SgOk t/\SgOk f
 |.fn _ _ _ _ b=>SgOk b
 |.lett _ _ _ _ _ d b=>SgOk d/\SgOk b
def GS(k:GK)(t:T):Prop:=match k with
 |.chF _ g a=>(∀x∈g,x=19\/x=20\/x=21\/x=22)->SgOk a->SgOk t
 |.caF a=>SgOk a->SgOk t
 |_=>SgOk t
theorem znc{l:List UInt8}{k:GK}{e:List Tok}{t:T}(h:G l k e t):GS k t:=by
 induction h with
 |lett hl hrc hn he hi hp D B iD iB=>exact⟨iD,iB⟩
 |fn hl hn b hp B iB=>exact iB
 |cond hl h1 h2 C X Y iC iX iY=>exact⟨iC,iX,iY⟩
 |ecmp h ih=>exact ih
 |cmp1 h ih=>exact ih
 |cmp2 X hs Y iX iY=>exact⟨oM,iX,iY⟩
 |sum X C iX iC=>exact iC sM iX
 |term X C iX iC=>exact iC sM iX
 |chN=>exact λ_ h=>h
 |@chC p g a sg w1 w2 y t hs Y C iY iC=>
  intro c b;have d:SgOk y:=by cases p<;>exact iY
  exact iC c ⟨by have:=c _ hs;omega,b,d⟩
 |call X C iX iC=>exact iC iX
 |caN=>exact λh=>h
 |caC Y C iY iC=>exact λb=>iC ⟨b,iY⟩
 |@leaf tk x hb h16 h=>
  show SgOk x;unfold Ks at h
  repeat' split at h
  all_goals first
   |(cases h;done)
   |(cases h;trivial)
   |(obtain⟨_,_,h⟩:=zbE.1 h;cases h;trivial)
 |bracket b hc X iX=>exact iX
 |pair b hm hc X Y iX iY=>exact⟨iX,iY⟩
end Tw
section
variable {B Br bs bt:Nat}{s:ByteArray}{body:List Tw.Tok}{N:List Tw.Rf.RN}{tv nv:Value}{root er:Int}{f g:Nat -> Nat}
theorem OC.more{z b:Nat}{k k':Int}{E:List Bnd}{sa a:Rf.RS}{r:Nat}(h:OC B Br bs bt s body N tv nv root er z k E sa r a)(A:z<=b)(n:k'=k):OC B Br bs bt s body N tv nv root er b k' E sa r a:=by
 subst n;intro w o i q y l m;refine(h w o i q oM l m).mono ?_;rintro x C ⟨c,d,p,j,t,v,e⟩;exact⟨c,d,p,j,t,oM,e⟩
def OAll(B Br bs bt:Nat)(s:ByteArray)(body:List Tw.Tok)(N:List RN)(tv nv:Value)(root er:Int)(f g:Nat->Nat)(m:Nat)(t:Tw.T):Prop:=
 ∀(n:Nat) (b:Sc) (e:REn) (E:List Bnd) (c:Rf.RS) (r:Nat) (a:Rf.RS),t.freeS (b.map (·.1))=none->SgOk t->Run N n (fill f g t n b)->EnvR b e E->(∀d∈E,n+Rf.T.sz t<=d.1)->E.length+Rf.T.sz t<=100000->rOf m t e c=some (r,a)->a.l.length<=5000000->OC B Br bs bt s body N tv nv root er (Rf.T.sz t) ((n+Rf.T.sz t-1:Nat):Int) E c r a
theorem Gt(m:Nat):∀t:Tw.T,OAll B Br bs bt s body N tv nv root er f g m t
 |.name fr t0 x=>by
  intro n sc e E sa r sb hF hS hR hE hlo hfe hr hl;rw[rOf]at hr;cases hb:sa.bad with
  |true=>rw[mA hb]at hr;cases hr;exact Kr hb
  |false=>
   rw[jA (by simp[hb])]at hr;have hk:=hR 0 _ rfl;rw[Nat.add_zero]at hk;have hc:(sc.map (·.1)).contains x=true:=by
    cases h:(sc.map (·.1)).contains x
    ·simp only[Tw.T.freeS]at hF;rw[h]at hF;cases hF
    ·rfl
   obtain⟨pre,post,j,r0,an,h1,h2⟩:=hE.look hc;have hsp:=h2.split;subst hsp;rcases h2.look with⟨rfl,h3⟩|⟨rfl,t,o,h3,h4⟩
   ·simp only[useS,h3]at hr;cases hr;exact(zfr (q:=(r,sa.l)) hk hb (by simp[Rf.T.sz]at hfe ⊢;omega) h2.first rfl h1 (.inl ⟨rfl,rfl⟩)).more (znL _) (by simp[Rf.T.sz])
   ·simp only[useS,h3]at hr;obtain⟨q,hq,hr⟩:=zbE.1 hr;cases hr;rw[h4]at hq;exact(zfr (q:=q) hk hb (by simp[Rf.T.sz]at hfe ⊢;omega) h2.first rfl h1 (.inr ⟨rfl,⟨m,hq⟩,hl⟩)).more (znL _) (by simp[Rf.T.sz])
 |.int fr t0 v=>by
  intro n sc e E sa r sb hF hS hR hE hlo hfe hr hl;rw[rOf]at hr;cases hb:sa.bad with
  |true=>rw[mA hb]at hr;cases hr;exact Kr hb
  |false=>
   rw[jA (by simp[hb])]at hr;cases hr;have hk:=hR 0 _ rfl;rw[Nat.add_zero]at hk;exact(zes hk hb hl (.inl ⟨rfl,rfl,rfl⟩)).more (znL _) (by simp[Rf.T.sz])
 |.truth fr t0 v=>by
  intro n sc e E sa r sb hF hS hR hE hlo hfe hr hl;rw[rOf]at hr;cases hb:sa.bad with
  |true=>rw[mA hb]at hr;cases hr;exact Kr hb
  |false=>
   rw[jA (by simp[hb])]at hr;cases hr;have hk:=hR 0 _ rfl;rw[Nat.add_zero]at hk;exact(zes hk hb hl (.inr (.inl ⟨by cases v<;>simp,rfl,rfl⟩))).more (znL _) (by simp[Rf.T.sz])
 |.side fr t0 v=>by
  intro n sc e E sa r sb hF hS hR hE hlo hfe hr hl;rw[rOf]at hr;cases hb:sa.bad with
  |true=>rw[mA hb]at hr;cases hr;exact Kr hb
  |false=>
   rw[jA (by simp[hb])]at hr;cases hr;have hk:=hR 0 _ rfl;rw[Nat.add_zero]at hk;exact(zl3 (second:=v) hk hb (by simp[Rf.RS.put]at hl;omega) rfl rfl rfl).more (znL _) (by simp[Rf.T.sz])
 |.bracket fr t0 i=>by
  intro n sc e E sa r sb hF hS hR hE hlo hfe hr hl;rw[rOf]at hr;cases hb:sa.bad with
  |true=>rw[mA hb]at hr;cases hr;exact Kr hb
  |false=>
   rw[jA (by simp[hb])]at hr;rw[fill]at hR;simp only[Rf.T.sz]at hlo hfe ⊢;have hk:=hR.last (m:=n+Rf.T.sz i) (by rw[Af]);have ih:=Gt m i n sc e E sa r sb hF hS hR.left hE (λb hb=>by have:=hlo b hb;omega) oM hr hl;exact(zes hk hb hl (.inr (.inr ⟨rfl,ih⟩))).more oM oM
 |.pair fr t0 a b=>by
  intro n sc e E sa r sb hF hS hR hE hlo hfe hr hl;rw[rOf]at hr;cases hb:sa.bad with
  |true=>rw[mA hb]at hr;cases hr;exact Kr hb
  |false=>
   rw[jA (by simp[hb])]at hr;rw[fill]at hR;simp only[Rf.T.sz]at hlo hfe ⊢;simp only[Tw.T.freeS]at hF;obtain⟨f1,f2⟩:=Ha hF;obtain⟨x,hx,hr⟩:=zbE.1 hr;obtain⟨y,hy,hr⟩:=zbE.1 hr;cases hr;have l2:=Cu m b hy;have hl':=hl;simp[Rf.RS.put]at hl';have hk:=hR.last (m:=n+Rf.T.sz a+Rf.T.sz b) (by rw[eA,Af,Af];omega);have iha:=Gt m a n sc e E sa x.1 x.2 f1 hS.1 hR.left.left hE (λb hb=>by have:=hlo b hb;omega) oM hx oM;have ihb:=Gt m b (n+Rf.T.sz a) sc e E x.2 y.1 y.2 f2 hS.2 (hR.left.right (by rw[Af])) hE (λb hb=>by have:=hlo b hb;omega) oM hy oM;exact(zkb (z:=Rf.T.sz a+Rf.T.sz b) hk (znL _) hb hl iha ihb (.inl ⟨rfl,rfl,rfl⟩)).more oM oM
 |.call fr t0 a b=>by
  intro n sc e E sa r sb hF hS hR hE hlo hfe hr hl;rw[rOf]at hr;cases hb:sa.bad with
  |true=>rw[mA hb]at hr;cases hr;exact Kr hb
  |false=>
   rw[jA (by simp[hb])]at hr;rw[fill]at hR;simp only[Rf.T.sz]at hlo hfe ⊢;simp only[Tw.T.freeS]at hF;obtain⟨f1,f2⟩:=Ha hF;obtain⟨x,hx,hr⟩:=zbE.1 hr;obtain⟨y,hy,hr⟩:=zbE.1 hr;obtain⟨u,hu,hr⟩:=zbE.1 hr;cases hr;have l2:=Cu m b hy;have l3:=Ed hu;simp[Rf.RS.put]at l3;have hk:=hR.last (m:=n+Rf.T.sz a+Rf.T.sz b) (by rw[eA,Af,Af];omega);have iha:=Gt m a n sc e E sa x.1 x.2 f1 hS.1 hR.left.left hE (λb hb=>by have:=hlo b hb;omega) oM hx oM;have ihb:=Gt m b (n+Rf.T.sz a) sc e E x.2 y.1 y.2 f2 hS.2 (hR.left.right (by rw[Af])) hE (λb hb=>by have:=hlo b hb;omega) oM hy oM;exact(zkb (z:=Rf.T.sz a+Rf.T.sz b) hk (znL _) hb hl iha ihb (.inr ⟨rfl,rfl,m,hu⟩)).more oM oM
 |.binary fr t0 sg a b=>by
  intro n sc e E sa r sb hF hS hR hE hlo hfe hr hl;rw[rOf]at hr;cases hb:sa.bad with
  |true=>rw[mA hb]at hr;cases hr;exact Kr hb
  |false=>
   rw[jA (by simp[hb])]at hr;rw[fill]at hR;simp only[Rf.T.sz]at hlo hfe ⊢;simp only[Tw.T.freeS]at hF;obtain⟨f1,f2⟩:=Ha hF;obtain⟨x,hx,hr⟩:=zbE.1 hr;obtain⟨y,hy,hr⟩:=zbE.1 hr;obtain⟨u,hu,hr⟩:=zbE.1 hr;obtain⟨v,hv,hr⟩:=zbE.1 hr;have l2:=Cu m b hy;have l3:=Ed hu;have l4:=Ed hv;simp[Rf.RS.put]at l3;have l5:v.l.length<=sb.l.length:=by
    split at hr<;>cases hr
    ·simp[Rf.RS.put]
    ·exact znL _
   have hk:=hR.last (m:=n+Rf.T.sz a+Rf.T.sz b) (by rw[eA,Af,Af];omega);have iha:=Gt m a n sc e E sa x.1 x.2 f1 hS.2.1 hR.left.left hE (λb hb=>by have:=hlo b hb;omega) oM hx oM;have ihb:=Gt m b (n+Rf.T.sz a) sc e E x.2 y.1 y.2 f2 hS.2.2 (hR.left.right (by rw[Af])) hE (λb hb=>by have:=hlo b hb;omega) oM hy oM;refine(zm9 (z:=Rf.T.sz a+Rf.T.sz b) hk (znL _) hb hl iha ihb hu hv ?_).more oM oM;have hsg:=hS.1;split at hr
   ·rename_i h;cases hr;refine .inl ⟨?_,rfl,rfl⟩;rcases h with rfl|rfl<;>simp[Hd]
   ·rename_i h;cases hr;refine .inr ⟨?_,rfl,rfl⟩;rcases hsg with rfl|rfl|rfl|rfl|rfl|rfl<;>simp[Hd]at h ⊢
 |.cond fr t0 c a b=>by
  intro n sc e E sa r sb hF hS hR hE hlo hfe hr hl;rw[rOf]at hr;cases hb:sa.bad with
  |true=>rw[mA hb]at hr;cases hr;exact Kr hb
  |false=>
   rw[jA (by simp[hb])]at hr;rw[fill]at hR;simp only[Rf.T.sz]at hlo hfe ⊢;simp only[Tw.T.freeS]at hF;obtain⟨f1,f3⟩:=Ha hF;obtain⟨f1,f2⟩:=Ha f1;obtain⟨x,hx,hr⟩:=zbE.1 hr;obtain⟨u,hu,hr⟩:=zbE.1 hr;obtain⟨y,hy,hr⟩:=zbE.1 hr;obtain⟨z,hz,hr⟩:=zbE.1 hr;obtain⟨v,hv,hr⟩:=zbE.1 hr;cases hr;have l2:=Ed hu;have l3:=Cu m a hy;have l4:=Cu m b hz;have l5:=Ed hv;simp[Rf.RS.put]at l2;have hk:=hR.last (m:=n+Rf.T.sz c+Rf.T.sz a+Rf.T.sz b) (by rw[eA,eA,Af,Af,Af];omega);have ihc:=Gt m c n sc e E sa x.1 x.2 f1 hS.1 hR.left.left.left hE (λb hb=>by have:=hlo b hb;omega) oM hx oM;have iha:=Gt m a (n+Rf.T.sz c) sc e E u y.1 y.2 f2 hS.2.1 (hR.left.left.right (by rw[Af])) hE (λb hb=>by have:=hlo b hb;omega) oM hy oM;have ihb:=Gt m b (n+Rf.T.sz c+Rf.T.sz a) sc e E y.2 z.1 z.2 f3 hS.2.2 (hR.left.right (by rw[eA,Af,Af];omega)) hE (λb hb=>by have:=hlo b hb;omega) oM hz oM;exact(zl4 (z:=Rf.T.sz c+Rf.T.sz a+Rf.T.sz b) hk (znL _) hb oM ihc hu iha ihb hv rfl).more oM oM
 |.fn fr t0 bn bat b=>by
  intro n sc e E sa r sb hF hS hR hE hlo hfe hr hl;rw[rOf]at hr;cases hb:sa.bad with
  |true=>rw[mA hb]at hr;cases hr;exact Kr hb
  |false=>
   rw[jA (by simp[hb])]at hr;rw[fill]at hR;simp only[Rf.T.sz]at hlo hfe ⊢;simp only[Tw.T.freeS]at hF;obtain⟨x,hx,hr⟩:=zbE.1 hr;cases hr;have l1:=Cu m b hx;have hl':=hl;simp[Rf.RS.put]at hl' l1;have hk:=hR.last (m:=n+Rf.T.sz b) (by rw[Af]);have hE':=hE.fix bn (n+Rf.T.sz b) sa.l.length (λb hb=>by have:=hlo b hb;omega);have ih:=Gt m b n ((bn,n+Rf.T.sz b)::sc) _ _ (sa.put ⟨118,0,0,none⟩) x.1 x.2 hF hS hR.left hE' (λb hb=>by
    rw[zmA]at hb;rcases hb with hb|hb
    ·have:=hlo b hb;omega
    ·simp at hb;rw[hb];exact znL _) (by simp;omega) hx oM
   exact(znk hk hb oM oM (Vh oM ih) rfl).more oM oM
 |.lett fr t0 rc bn bat d b=>by
  intro n sc e E sa r sb hF hS hR hE hlo hfe hr hl;rw[rOf]at hr;cases hb:sa.bad with
  |true=>rw[mA hb]at hr;cases hr;exact Kr hb
  |false=>
   rw[jA (by simp[hb])]at hr;rw[fill]at hR;simp only[Rf.T.sz]at hlo hfe ⊢;simp only[Tw.T.freeS]at hF;obtain⟨f1,f2⟩:=Ha hF;have hk:=hR.last (m:=n+Rf.T.sz d+Rf.T.sz b) (by rw[eA,Af,Af];omega);cases rc with
   |false=>
    rw[jA sM]at hr;obtain⟨x,hx,hr⟩:=zbE.1 hr;have l2:x.2.l.length<=sb.l.length:=Cu m b hr;have ihd:=Gt m d n sc e E sa x.1 x.2 f1 hS.1 hR.left.left hE (λb hb=>by have:=hlo b hb;omega) oM hx oM;have hE':=hE.dfn bn (n+Rf.T.sz d+Rf.T.sz b) x.1 (.lett fr t0 false bn bat d b) (λb hb=>by have:=hlo b hb;omega);have ihb:=Gt m b (n+Rf.T.sz d) ((bn,n+Rf.T.sz d+Rf.T.sz b)::sc) _ _ x.2 r sb f2 hS.2 (hR.left.right (by rw[Af])) hE' (λb hb=>by
     rw[zmA]at hb;rcases hb with hb|hb
     ·have:=hlo b hb;omega
     ·simp at hb;rw[hb];exact znL _) (by simp;omega) hr hl
    exact(zna (z:=Rf.T.sz d+1+Rf.T.sz b) (znL _) hk hb ihd (Vh oM ihb) rfl).more oM oM
   |true=>
    rw[mA rfl]at hr;obtain⟨x,hx,hr⟩:=zbE.1 hr;obtain⟨u,hu,hr⟩:=zbE.1 hr;have l1:=Cu m d hx;have l2:=Ed hu;have l3:u.l.length<=sb.l.length:=Cu m b hr;simp[Rf.RS.put]at l1;have hE1:=hE.fix bn (n+Rf.T.sz d+Rf.T.sz b) sa.l.length (λb hb=>by have:=hlo b hb;omega);have ihd:=Gt m d n ((bn,n+Rf.T.sz d+Rf.T.sz b)::sc) _ _ (sa.put ⟨118,0,0,none⟩) x.1 x.2 f1 hS.1 hR.left.left hE1 (λb hb=>by
     rw[zmA]at hb;rcases hb with hb|hb
     ·have:=hlo b hb;omega
     ·simp at hb;rw[hb];simp) (by simp;omega) hx oM
    have hE':=hE.dfn bn (n+Rf.T.sz d+Rf.T.sz b) sa.l.length (.lett fr t0 true bn bat d b) (λb hb=>by have:=hlo b hb;omega);have ihb:=Gt m b (n+Rf.T.sz d) ((bn,n+Rf.T.sz d+Rf.T.sz b)::sc) _ _ u r sb f2 hS.2 (hR.left.right (by rw[Af])) hE' (λb hb=>by
     rw[zmA]at hb;rcases hb with hb|hb
     ·have:=hlo b hb;omega
     ·simp at hb;rw[hb];exact znL _) (by simp;omega) hr hl
    exact(znb (z:=Rf.T.sz d+1+Rf.T.sz b) (znL _) hk hb oM (Vh oM ihd) hu (Vh oM ihb) rfl).more oM oM
end
end
section
open Tw Go.Proofs.Tryz
open Go.RowKit
theorem zci(u:Nat)(n:u<9223372036854775808)(w:World):Calls prog 138 #[vI u] w λe t=>e=.returned (ug (Lib.decDigits u))/\w.grownBy t none:=by
 have y:¬(u:Int)<0:=oM
 go_in;go_wp2_with fail;go_loopg[0,3] (u+2) (λq r s wr=>∃(x:Nat) (a:List UInt8),r=vI x/\s=ug a/\x<=u/\q=x+(if a=[]then 2 else 1)/\Hid (DigRel u x a)/\Hid (w.grownBy wr none))
 case atStart=>exact⟨u,[],rfl,rfl,znL _,sM,.inl ⟨rfl,rfl⟩,Aa _⟩
 case round=>
  obtain⟨x,a,rfl,rfl,B,g,c,f⟩:=hrel;have m:=Lc wr (UInt8.ofNat (48+x % 10));have k:((UInt8.ofNat (48+x % 10)).toNat:Int)=48+(x:Int) % 10:=by
   simp[UInt8.toNat_ofNat];omega
  rw[k]at m;have A:x<9223372036854775808:=oM;have j:=(uh c).len n;have has:a.toArray.size<=19:=by simpa using j
  have h:Hid (w.grownBy (wr.alloc (.cells #[vU (48+(x:Int) % 10)] 5)) none):=Ai f.o _;by_cases o:0<x
  ·have z:(0:Int)<x:=oM;have d:=bV ((uh c).step (.inl o));go_wp2_with fail;go_roundg (x / 10+1)
   case measure=>subst g;split<;>omega
   case rel=>exact⟨x / 10,UInt8.ofNat (48+x % 10)::a,by go_num,zg7 _ _,oM,sM,d,h⟩
  ·have p:x=0:=oM;subst p;cases a with
   |nil=>
    have d:=bV ((uh c).step (.inr rfl));have v:(convert 66 9 (sL wr.heap.size 1 1)).run prog (wr.alloc (.cells #[vU 48] 5))=.ok (ug [48]) (wr.alloc (.cells #[vU 48] 5)):=Lc wr 48;have i:Hid (w.grownBy (wr.alloc (.cells #[vU 48] 5)) none):=Ai f.o _;go_wp2_with fail;go_roundg 1
    case measure=>subst g;simp
    case rel=>exact⟨0,UInt8.ofNat (48+0 % 10) :: [],rfl,rfl,oM,sM,d,i⟩
   |cons b l=>
    have R:=bV ((uh c).done rfl sM);go_wp2_with fail;go_ret;exact⟨by rw[<-uh R];rfl,f.o⟩
theorem Iz(a b:List UInt8):Value.string (({data:=a.toArray}:ByteArray) ++ {data:=b.toArray})=ug (a++b):=by
 unfold ug;congr 1
theorem zh1(u:Nat):Lib.itoa (u:Int)=Lib.decDigits u:=by
 unfold Lib.itoa;rw[jA oM,Int.toNat_natCast]
theorem zet(c:Nat):Value.string ({data:=#[39]} ++ {data:=#[97+UInt8.ofNat c]})=ug [39,UInt8.ofNat (97+c)]:=by
 have e:(97+UInt8.ofNat c:UInt8)=UInt8.ofNat (97+c):=by simp[UInt8.ofNat_add]
 rw[e];rfl
theorem zeu(c:Nat)(l:List UInt8):Value.string ({data:=#[39]} ++ {data:=#[97+UInt8.ofNat c]} ++ {data:=l.toArray})=ug ([39,UInt8.ofNat (97+c)]++l):=by
 have e:(97+UInt8.ofNat c:UInt8)=UInt8.ofNat (97+c):=by simp[UInt8.ofNat_add]
 rw[e];exact Iz [39,UInt8.ofNat (97+c)] l
theorem Yv(k:Nat)(n:k<=10000)(w:World):Calls prog 134 #[vI k] w λe j=>e=.returned (ug (Fc k))/\w.grownBy j none:=by
 have d:=Lc w (UInt8.ofNat (97+k % 26));have c:((UInt8.ofNat (97+k % 26)).toNat:Int)=97+(k:Int) % 26:=by
  simp[UInt8.toNat_ofNat];omega
 rw[c]at d;have b:Hid (w.grownBy (w.alloc (.cells #[vU (97+(k:Int) % 26)] 5)) none):=zwA _ _ _;by_cases m:26<=k
 ·have g:(26:Int)<=(k:Int):=oM;have a:=bV (zci (k / 26) oM (w.alloc (.cells #[vU (97+(k:Int) % 26)] 5)));have h:(Lib.decDigits (k / 26)).length<=19:=(Lt 18 (k / 26) oM).2;have o:(Lib.decDigits (k / 26)).toArray.size<=19:=by rw[List.size_toArray];exact h
  have i:((k / 26:Nat):Int)=(k:Int) / 26:=oM;rw[i]at a;have E:Hid (Fc k=[39,UInt8.ofNat (97+k % 26)]++Lib.decDigits (k / 26)):=by
   show _=_;unfold Fc;rw[mA oM,zh1];rfl
  go_in;go_wp2_with fail;refine a.o.mono ?_;rintro l p ⟨rfl,f⟩;have G:=bV (Ab b.o f);go_wp2_with fail;go_ret;refine⟨?_,G.o⟩;rw[E.o];exact congrArg Ending.returned (zeu _ _)
 ·have g:¬(26:Int)<=(k:Int):=oM;have E:Hid (Fc k=[39,UInt8.ofNat (97+k % 26)]):=by
   show _=_;unfold Fc;rw[jA oM]
  go_in;go_wp2_with fail;go_ret;refine⟨?_,b.o⟩;rw[E.o];exact congrArg Ending.returned (zet _)
end
section
open Tw Tw.Rf Go.Proofs.Tryz
open Go.RowKit
def RhS:List TypeId:=[160,3]
structure SH(w:World)(Bq bq bs:Nat)(st:Wr)(nv:Value):Prop where
 cell:w.heap[bq]?=some (.cells #[.pointer (some ⟨bs,0,none⟩),ug st.2,nv] 160 (0,0))
 names:w.ownsRow Bq 3 1 nv st.1.length (st.1.map fun f:Nat=>Value.int .i64 f)
 low:Bq<=bq
theorem Tw.Rf.End.run{l:List RC}{k r:Nat}(h:Rf.End l k r):∃n,Rf.endS n l k=some r:=by
 induction h with
 |here h hl=>exact⟨1,by simp[Rf.endS,h,hl]⟩
 |step h hl _ ih=>
  obtain⟨n,a⟩:=ih;exact⟨n+1,by simp[Rf.endS,h,hl,a]⟩
section
variable {w w':World}{B Bq bq bs bt:Nat}{l:List Tw.Rf.RC}{bad:Bool}{env:List Bnd}{lv ev sv nv:Value}{st:Tw.Rf.Wr}
variable{p:Nat}
theorem SH.cells(h:SH w Bq bq bs st nv):w.cell? (aD bq 0)=some (pT bs)/\w.cell? (aD bq 1)=some (ug st.2)/\w.cell? (aD bq 2)=some nv:=by
 refine⟨?_,?_,?_⟩<;>(rw[mB _ _ _ _ _ _ h.cell];rfl)
theorem SH.grown(h:SH w Bq bq bs st nv)(a:w.grownBy w' none):SH w' Bq bq bs st nv:=
 {h with cell:=zbG a h.cell,names:=A6 h.names a}
theorem zmh{j:Nat}{c:Array Value}(d:w.heap[bq]?=some (.cells c 160 (0,0)))(h:Bq<=bq)(v:Value):TK Bq RhS w (w.setCell (aD bq j) v) where
 low:=λ{k} i m=>aA w (aD bq j) k v (by simp;omega)
 os:=rfl
 tape:=rfl
 output:=rfl
 size:=sM
 cells:=λ{k g t n} a e=>(aA w (aD bq j) k v (by rintro rfl;rw[d]at a;cases a;revert e;decide)).trans a
 other:=λ{k o} b f=>(aA w (aD bq j) k v (by rintro rfl;rw[d]at b;cases b;exact f _ _ _ rfl)).trans b
theorem SH.setOut(h:SH w Bq bq bs st nv){v:Value}{b:List UInt8}(d:v=ug b):SH (w.setCell (aD bq 1) v) Bq bq bs (st.1,b) nv/\TK Bq RhS w (w.setCell (aD bq 1) v):=by
 subst d;refine⟨⟨Bo h.cell _,Ag h.names λg c a=>(aA w (aD bq 1) g _ (by rintro rfl;rw[h.cell]at a;cases a)).trans a,h.low⟩,zmh h.cell h.low _⟩
theorem ST.sh(h:ST w B bs bt l bad env lv ev sv)(o:∀g,sv.ownBlock=some g->g<Bq)(k:TK Bq RhS w w'):ST w' B bs bt l bad env lv ev sv:=by
 obtain⟨q,f⟩:=h.seen;refine{h with store:=k.cells h.store dZ,types:=Ag h.types λg c b=>k.cells b dZ,envs:=Ag h.envs λg c b=>k.cells b dZ,seen:=⟨q,f.1,?_⟩};rcases f.2 with a|⟨e,m,n,a,i,d,j⟩
 ·exact .inl a
 ·exact .inr ⟨e,m,n,a,i,(k.low (o e (by rw[a];rfl)) (zgE.1 d).1).trans d,j⟩
theorem SH.push(h:SH w Bq bq bs st nv){g cap:Nat}{b:World}(j:b.ownsRow Bq 3 1 (sL g (st.1.length+1) cap) (st.1.length+1) (st.1.map (λf:Nat=>vI f)++[vI p]))(a:w.grownBy b nv.ownBlock):
  b.cell? (aD bq 2)=some nv/\b.frozen? (aD bq 2)=false/\SH (b.setCell (aD bq 2) (sL g (st.1.length+1) cap)) Bq bq bs (st.1++[p],st.2) (sL g (st.1.length+1) cap)/\TK Bq RhS w (b.setCell (aD bq 2) (sL g (st.1.length+1) cap)):=by
 have d:=Dv h.names a h.cell dZ;refine⟨zcR d,eB _ _ _ _ _ d,⟨Bo d _,?_,h.low⟩,?_⟩
 ·have r:=Ag j λn c i=>(aA b (aD bq 2) n (sL g (st.1.length+1) cap) (by rintro rfl;rw[d]at i;cases i)).trans i;rw[eA,vB];exact r
 ·refine TK.trans ?_ (zmh d h.low _);exact{
   low:=λ{k} x s=>a.block k s (λe=>by have:=(h.names.lt k e.symm).1;omega)
   os:=a.os
   tape:=a.tape
   output:=a.output
   size:=a.size
   cells:=λi q=>Dv h.names a i (λe=>by rw[e]at q;revert q;decide)
   other:=λ{k y} j t=>(a.block k (zgE.1 j).1 (λe=>by
    rcases h.names.2 with⟨m,_⟩|⟨n,cap,v,m,_,o,_⟩
    ·rw[m]at e;simp[Value.ownBlock]at e
    ·rw[m]at e;simp[Value.ownBlock]at e;subst e;rw[j]at o;cases o;exact t _ _ _ rfl)).trans j}
theorem Yw{p:Nat}:∀ {nm:List Nat} {i d:Nat},nm[i]?=some p->(∀j,j<i->nm[j]? ≠ some p)->idxS p nm d=some (d+i)
 |[],i,d,h,_=>by simp at h
 |y::nm,0,d,h,_=>by
  have:y=p:=by simpa using h
  simp[idxS,this]
 |y::nm,i+1,d,h,hn=>by
  have a:¬p=y:=λe=>hn 0 oM (by simp[e]);rw[idxS,jA a,Yw (nm:=nm) (i:=i) (by simpa using h) (λj b e=>hn (j+1) oM (by simpa using e))];congr 1;omega
theorem zcj{p:Nat}:∀ {nm:List Nat} {d:Nat},(∀j,j<nm.length->nm[j]? ≠ some p)->idxS p nm d=none
 |[],d,_=>rfl
 |y::nm,d,hn=>by
  have a:¬p=y:=λe=>hn 0 sM (by simp[e]);rw[idxS,jA a];exact zcj λj b e=>hn (j+1) (by simp;omega) (by simpa using e)
def ShC(B Bq bq bs bt:Nat)(l:List RC)(bad:Bool)(env:List Bnd)(lv ev sv:Value)(k:Nat)(a:Ty):Prop:=
 ∀(b:Nat) (w:World) (st:Wr) (nv:Value),b<=2->SH w Bq bq bs st nv->ST w B bs bt l bad env lv ev sv->Few st->st.2.length<=5300->Calls prog 73 #[.pointer (some ⟨bq,0,none⟩),.int .i64 k,.int .i64 b] w λe w'=>e=.returned (.tuple #[])/\TK Bq RhS w w'/\∃c,SH w' Bq bq bs (Cj (rbr a b) (rin a) st) c
theorem zaf{k:Nat}{c:RC}{a:Ty}(he:Rf.End l k p)(hp:l[p]?=some c)(hways:(c.sort=105/\a=.int)\/(c.sort=98/\a=.bool)\/(c.sort=118/\a=.var p)):ShC B Bq bq bs bt l bad env lv ev sv k a:=by
 intro wh w st nv hwh h hs hf hl;obtain⟨b0,b1,b2⟩:=h.cells;have hls:st.2.toArray.size=st.2.length:=sM;obtain⟨n,hn⟩:=he.run;have cT:prog.cellsOf 281=4:=kR;have hfw:=hs.few;obtain⟨nm,out⟩:=st;dsimp only at *;have H:=bV h;have HS:=bV hs;have HN:=bV hn;have HP:=bV hp;have HW:=bV hways;have HF:=bV hf;by_cases hlong:400<out.length
 ·have hli:(400:Int)<(out.length:Int):=oM
  go_in;go_wp2_with fail;refine bodyPost_ret (results_none rfl _ _ _) rfl ?_;refine⟨rfl,TK.refl _ _ _,nv,?_⟩;rw[Cj,mA hlong];exact H.o
 have hli:¬(400:Int)<(out.length:Int):=oM;have hl1:out.length<=400:=oM;have hl2:out.toArray.size<=400:=by simpa using hl1
 go_in;go_wp2_with fail;refine(Rc HS.o HN.o).mono ?_;rintro e1 w1 ⟨rfl,hg⟩;have S1:=bV (HS.o.grown hg);have H1:=bV (H.o.grown hg);have K1:=bV (TK.of_grown Bq RhS hg);obtain⟨b0,b1,b2⟩:=H1.o.cells;obtain⟨_,c1,_,_,_⟩:=S1.o.cells;obtain⟨g,capl,rfl,d0,d1,d2,d3,_⟩:=S1.o.type HP.o;have hpl:(p:Int)<(l.length:Int):=by have:=(zlE.1 HP.o).1;omega
 obtain⟨so,hso⟩:∃so:Int,(c.sort:Int)=so:=⟨_,rfl⟩;rw[hso]at d0;have HSO:=bV hso;go_upto_region 3 with fail;have g2:=zwA w1 (.cells #[vU so,vI c.a,vI c.b,vI c.foI] 281) none;have n2:=Ac w1 (.cells #[vU so,vI c.a,vI c.b,vI c.foI] 281);obtain⟨w2,hw2⟩:∃w2,w1.alloc (.cells #[vU so,vI c.a,vI c.b,vI c.foI] 281)=w2:=⟨_,rfl⟩;obtain⟨nb,hnb⟩:∃nb,w1.heap.size=nb:=⟨_,rfl⟩;rw[hw2]at g2 n2;rw[hnb]at n2;rw[hw2,hnb];have H2:=bV (H1.o.grown g2);have K2:=bV (K1.o.trans (TK.of_grown Bq RhS g2));have m0:w2.cell? (aD nb 0)=some (vU so):=zcR n2;have N2:=bV n2;have S2:=bV (S1.o.grown g2);obtain⟨b0,b1,b2⟩:=H2.o.cells;have f1:w2.frozen? (aD bq 1)=false:=eB _ _ _ _ _ H2.o.cell;have hw:Hid (∀a:Ty,rbr a wh=false->Cj (rbr a wh) (rin a) (nm,out)=rin a (nm,out)):=bV λa ha=>by rw[Cj,jA hlong,ha];rfl
 rcases HW.o with⟨hs,rfl⟩|⟨hs,rfl⟩|⟨hs,rfl⟩
 ·obtain rfl:so=105:=by have:=HSO.o;omega
  obtain⟨X,KX⟩:=H2.o.setOut (Iz out [105,110,116]);have X:=bV X;have KX:=bV (K2.o.trans KX);go_wp2_with fail;go_end0;exact⟨rfl,KX.o,nv,by rw[hw.o _ rfl];exact X.o⟩
 ·obtain rfl:so=98:=by have:=HSO.o;omega
  obtain⟨X,KX⟩:=H2.o.setOut (Iz out [98,111,111,108]);have X:=bV X;have KX:=bV (K2.o.trans KX);go_wp2_with fail;go_end0;exact⟨rfl,KX.o,nv,by rw[hw.o _ rfl];exact X.o⟩
 ·obtain rfl:so=118:=by have:=HSO.o;omega
  obtain⟨pn,cn,rfl⟩:∃p c,nv=.slice p nm.length c:=by
   rcases H2.o.names.2 with⟨e1,e2⟩|⟨g2,cap2,_,e1,_⟩
   ·exact⟨_,_,by rw[e1,e2]⟩
   ·exact⟨_,_,e1⟩
  have hnm:nm.length<=400:=by have:=HF.o;unfold Few at this;dsimp only at this;omega
  go_wp2_with fail;go_loopg[8] nm.length (λm iv wr=>∃i:Nat,iv=vI i/\wr=w2/\i+m=nm.length/\Hid (∀j,j<i->nm[j]? ≠ some p))
  case atStart=>exact⟨0,rfl,rfl,oM,bV (λj hj=>oM)⟩
  case round=>
   obtain⟨i,rfl,rfl,hi,HI⟩:=hrel;have ways:(∃y,nm[i]?=some y/\y≠p)\/nm[i]?=some p\/i=nm.length:=by
    rcases yB i nm.length with hlt|hge
    ·by_cases hy:nm[i]=p
     ·exact .inr (.inl (by rw[fA hlt,hy]))
     ·exact .inl ⟨_,fA hlt,hy⟩
    ·exact .inr (.inr oM)
   have hcell:∀y,nm[i]?=some y->∃gn,pn=some (aD gn 0)/\wr.cell? (aD gn i)=some (vI y):=λy hy=>by
    have hlt:=(zlE.1 hy).1;have hh:=H2.o.names;rcases hh.2 with⟨e1,e2⟩|⟨g',cap',cur,e1,_⟩
    ·dsimp only at e2;omega
    ·cases e1;refine⟨g',rfl,(hh.cellAt i (by simpa using hlt)).trans ?_⟩;rw[sD,hy];rfl
   rcases ways with⟨y,hy,hyp⟩|hy|hie
   ·obtain⟨gn,rfl,k0⟩:=hcell y hy;have hii:(i:Int)<(nm.length:Int):=(by have:=(zlE.1 hy).1;omega);have hyi:¬(y:Int)=(p:Int):=oM;have HI2:Hid (∀j,j<i+1->nm[j]? ≠ some p):=bV λj hj=>by
     rcases Nat.lt_or_eq_of_le (Nat.le_of_lt_succ hj)with h|rfl
     ·exact HI.o j h
     ·rw[hy];intro e;cases e;exact hyp rfl
    go_wp2_with fail;go_roundg (nm.length-(i+1))
    case measure=>omega
    case rel=>exact⟨i+1,by push_cast;rfl,rfl,oM,HI2⟩
   ·obtain⟨gn,rfl,k0⟩:=hcell p hy;have hii:(i:Int)<(nm.length:Int):=(by have:=(zlE.1 hy).1;omega);have hne:¬(i:Int)=(nm.length:Int):=oM;have HNT:Hid (numT nm p=(i,nm)):=bV (by
     have:=Yw (d:=0) hy HI.o;unfold numT;rw[this,Nat.zero_add])
    obtain⟨wq,rfl⟩:∃wq,wq=wr:=⟨_,rfl⟩;have HX:=H2;have KQ:=K2;go_upto_region 17 with fail;have hv1:=(Rf.Ju (k:=i) oM).2;have hv2:(Fc i).toArray.size<=23:=(by simpa using hv1);have HVL:=bV (show i<=10000 by omega)
    go_region_with (go_at_call 134;refine(Yv i HVL.o _).mono ?_;rintro e3 w3 ⟨rfl,hg3⟩;have G3:=bV (Ab (Ad (Aa wq)) hg3);have H3:=bV (HX.o.grown G3.o);obtain⟨y0,y1,-⟩:=H3.o.cells;have y2:w3.frozen? (aD bq 1)=false:=eB _ _ _ _ _ H3.o.cell;clear hg3)
    all_goals
     obtain⟨X,KX⟩:=H3.o.setOut (Iz out (Fc i));have X:=bV X;have KX:=bV (KQ.o.trans ((TK.of_grown Bq RhS G3.o).trans KX));go_wp2_with fail;go_end0;refine⟨rfl,KX.o,?_⟩;rw[hw.o _ rfl,rin,HNT.o];exact⟨_,X.o⟩
   ·subst hie;have HNT:Hid (numT nm p=(nm.length,nm++[p])):=bV (by
     have:=zcj (d:=0) HI.o;unfold numT;rw[this])
    have hii:(prog.info? 3).map (λi=>(i.zero,i.size,i.bytes))=some (some (vI 0),1,8):=kR;obtain⟨i0,hi0,hz0,hz1,hz2⟩:=info_parts hii;have ga:=zwA wr (.cells #[vI p] 3) none;have SA:=bV (H2.o.grown ga);have KA:=bV (TK.of_grown Bq RhS ga);have OA:=bV SA.o.names;have HBq:Hid (Bq<=(wr.alloc (.cells #[vI p] 3)).heap.size):=bV (by have h1:=SA.o.low;have h2:=(zgE.1 SA.o.cell).1;omega);have hmx:nm.length+1<=maxLen:=(by unfold maxLen;omega);go_upto_region 17 with(at_builtin;refine wpList_append_lies _ rfl _ _ 33 rfl Bq 3 i0 (vI 0) 1 8 underlying33 hi0 hz0 hz1 hz2 rfl dZ (.slice pn nm.length cn) nm.length (nm.map λf:Nat=>vI f) rfl OA.o (aD wr.heap.size 0) 1 1 [vI p] rfl rfl (H9 _ _ _) (by intro u hu;simp at hu;subst hu;rfl) dZ hmx oM HBq.o _ rfl ?_;intro g5 cap5 w5 hown5 hgrow5 _ _;obtain⟨cz,fz,X5,K5⟩:=SA.o.push hown5 hgrow5;have X5:=bV X5;have K5:=bV (KA.o.trans K5);clear hown5 hgrow5);have KQ:=bV (K2.o.trans K5.o);obtain⟨wq,hwq⟩:∃wq,w5.setCell (aD bq 2) (sL g5 (nm.length+1) cap5)=wq:=⟨_,rfl⟩;rw[hwq]at X5 KQ;rw[hwq];have HX:=X5;obtain⟨b0',b1',b2'⟩:=HX.o.cells;have f1':wq.frozen? (aD bq 1)=false:=eB _ _ _ _ _ HX.o.cell;obtain⟨i,hi'⟩:∃i,nm.length=i:=⟨_,rfl⟩;rw[hi']at HNT hnm;rw[hi'];have hv1:=(Rf.Ju (k:=i) oM).2;have hv2:(Fc i).toArray.size<=23:=(by simpa using hv1);have HVL:=bV (show i<=10000 by omega)
    go_region_with (go_at_call 134;refine(Yv i HVL.o _).mono ?_;rintro e3 w3 ⟨rfl,hg3⟩;have G3:=bV (Ab (Ad (Aa wq)) hg3);have H3:=bV (HX.o.grown G3.o);obtain⟨y0,y1,-⟩:=H3.o.cells;have y2:w3.frozen? (aD bq 1)=false:=eB _ _ _ _ _ H3.o.cell;clear hg3)
    all_goals
     obtain⟨X,KX⟩:=H3.o.setOut (Iz out (Fc i));have X:=bV X;have KX:=bV (KQ.o.trans ((TK.of_grown Bq RhS G3.o).trans KX));go_wp2_with fail;go_end0;refine⟨rfl,KX.o,?_⟩;rw[hw.o _ rfl,rin,HNT.o];exact⟨_,X.o⟩
end
end
end Go.Proofs.YtckhafpejefbbaaGreatDoor
