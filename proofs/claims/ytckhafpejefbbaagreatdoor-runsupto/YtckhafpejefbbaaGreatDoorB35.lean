import Derived.Test.YtckhafpejefbbaaGreatDoorB34

set_option maxRecDepth 100000
set_option maxHeartbeats 16000000
namespace Go.Proofs.YtckhafpejefbbaaGreatDoor
section
open Tw Tw.Rf Go.Proofs.Tryz
open Go.RowKit
section
theorem Tryz.zun:(Tryz.prog.info? 48).map (λi=>(i.zero,i.size,i.bytes))=some (some (.agg #[.string ⟨#[]⟩,vI 0,zN]),3,48):=kR
namespace Tw.Rf
variable{l:List UInt8}{body:List Tok}{t:T}
theorem ze0:∀ {a b:List Nat},a.Pairwise (· < ·)->b.Pairwise (· < ·)->(∀x,x∈a↔x∈b)->a=b
 |[],[],_,_,_=>rfl
 |[],y::b,_,_,h=>by have:=(h y).2 sM;cases this
 |x::a,[],_,_,h=>by have:=(h x).1 sM;cases this
 |x::a,y::b,ha,hb,h=>by
  rw[List.pairwise_cons]at ha hb;have g:x=y:=by
   rcases zmC.1 ((h x).1 sM)with e|e
   ·exact e
   ·rcases zmC.1 ((h y).2 sM)with d|d
    ·exact d.symm
    ·have:=hb.1 x e;have:=ha.1 y d;omega
  subst g;rw[ze0 ha.2 hb.2 λz=>?_];have f:=h z;constructor
  ·intro c
   have:=ha.1 z c;rcases zmC.1 (f.1 (by simp[c]))with e|e
   ·omega
   ·exact e
  ·intro c
   have:=hb.1 z c;rcases zmC.1 (f.2 (by simp[c]))with e|e
   ·omega
   ·exact e
def Lc(m:T)(L:List Tok):List Nat:=(L.filter λtk=>decide (tk.fr∈m.useS)).map (·.fr)
def Kh(t:T)(L:List Tok):List T:=L.filterMap λtk=>t.binds.find? λm=>m.bpl==tk.fr
theorem ze1(a:Lex 0 l body):(body.map (·.fr)).Pairwise (· < ·):=by
 rw[List.pairwise_map];refine a.apart.imp_of_mem ?_;intro b d c _ h
 have:=(a.Eh.1 b c).lt;omega
theorem Kd:∀(t:T),∀m∈t.binds,m.useS.Sublist t.places
 |.name ..,_,h|.int ..,_,h|.Ak ..,_,h|.side ..,_,h=>by cases h
 |.bracket _ _ i,m,h=>Kd i m h
 |.pair _ _ a b,m,h|.call _ _ a b,m,h|.binary _ _ _ a b,m,h=>by
  rcases zmA.1 h with h|h
  ·exact(Kd a m h).trans (List.sublist_append_left _ _)
  ·exact(Kd b m h).trans (List.sublist_append_right _ _)
 |.cond _ _ c a b,m,h=>by
  rcases zmA.1 h with h|h
  ·exact(Kd c m h).trans (List.sublist_append_left _ _)
  ·rcases zmA.1 h with h|h
   ·exact((Kd a m h).trans (List.sublist_append_left _ _)).trans (List.sublist_append_right _ _)
   ·exact((Kd b m h).trans (List.sublist_append_right _ _)).trans (List.sublist_append_right _ _)
 |.fn _ _ n _ a,m,h=>by
  rcases zmC.1 h with rfl|h
  ·exact(Ci n a []).cons _
  ·exact(Kd a m h).cons _
 |.Am _ _ r n _ a b,m,h=>by
  rcases zmC.1 h with rfl|h
  ·refine List.Sublist.cons _ (List.Sublist.append ?_ (Ci n b []));cases r
   ·exact List.nil_sublist _
   ·exact Ci n a []
  ·rcases zmA.1 h with h|h
   ·exact((Kd a m h).trans (List.sublist_append_left _ _)).cons _
   ·exact((Kd b m h).trans (List.sublist_append_right _ _)).cons _
theorem X0(b:Text l body t){p:Nat}(a:p∈t.places):∃tk∈body,tk.fr=p:=by
 rw[Cb,List.mem_map]at a;obtain⟨sp,d,rfl⟩:=a;have⟨k,c,_,h,_⟩:=b.span sp d;exact⟨k,c,h⟩
theorem Gi:∀(t:T),∀m∈t.binds,(m.bpl,m.bpl+m.bname.length,m.bname)∈t.spans
 |.name ..,_,h|.int ..,_,h|.Ak ..,_,h|.side ..,_,h=>by cases h
 |.bracket _ _ i,m,h=>Gi i m h
 |.pair _ _ a b,m,h|.call _ _ a b,m,h|.binary _ _ _ a b,m,h=>by
  rcases zmA.1 h with h|h
  ·exact eD _ (Gi a m h)
  ·exact bD _ (Gi b m h)
 |.cond _ _ c a b,m,h=>by
  rcases zmA.1 h with h|h
  ·exact eD _ (Gi c m h)
  ·rcases zmA.1 h with h|h
   ·exact bD _ (eD _ (Gi a m h))
   ·exact bD _ (bD _ (Gi b m h))
 |.fn _ _ n _ a,m,h=>by
  rcases zmC.1 h with rfl|h
  ·exact List.mem_cons_self
  ·exact List.mem_cons_of_mem _ (Gi a m h)
 |.Am _ _ r n _ a b,m,h=>by
  rcases zmC.1 h with rfl|h
  ·exact List.mem_cons_self
  ·rcases zmA.1 h with h|h
   ·exact List.mem_cons_of_mem _ (eD _ (Gi a m h))
   ·exact List.mem_cons_of_mem _ (bD _ (Gi b m h))
theorem zke{m:T}(c:Lex 0 l body)(a:Text l body t)(d:m∈t.binds):Lc m body=m.useS:=by
 have b:=Kd t m d;refine ze0 ((ze1 c).sublist (List.filter_sublist.map _)) (a.inc.sublist b) λx=>?_;simp[Lc,List.mem_map,List.mem_filter,decide_eq_true_eq];constructor
 ·rintro⟨tk,⟨_,h⟩,rfl⟩;exact h
 ·intro h;obtain⟨tk,e,rfl⟩:=X0 a (b.mem h);exact⟨tk,⟨e,h⟩,rfl⟩
theorem zhi{t:T}(d:(t.binds.map (·.bpl)).Pairwise (· < ·)):∀ {a b:List T},(∀m∈a,m∈t.binds)->(∀m∈b,m∈t.binds)->a.map (·.bpl)=b.map (·.bpl)->a=b
 |[],[],_,_,_=>rfl
 |[],_::_,_,_,h=>by simp at h
 |_::_,[],_,_,h=>by simp at h
 |x::a,y::b,ha,hb,h=>by
  simp[List.map_cons,List.cons.injEq]at h;rw[Wm d (ha x sM) (hb y sM) h.1,zhi d (λm c=>ha m (by simp[c])) (λm c=>hb m (by simp[c])) h.2]
theorem Za(t:T):∀L:List Tok,((Kh t L).map (·.bpl)).Sublist (L.map (·.fr))/\∀m∈Kh t L,m∈t.binds
 |[]=>⟨List.Sublist.refl _,λm h=>by cases h⟩
 |tk::L=>by
  have⟨a,b⟩:=Za t L;unfold Kh at a b ⊢;rw[List.filterMap_cons];cases h:t.binds.find? (λm=>m.bpl==tk.fr)with
  |none=>exact⟨a.cons _,b⟩
  |some m=>
   have d:m.bpl=tk.fr:=(by simpa using List.find?_some h);refine⟨?_,λe c=>?_⟩
   ·simp only[List.map_cons,d];exact a.cons_cons _
   ·rcases zmC.1 c with rfl|c
    ·exact List.mem_of_find?_eq_some h
    ·exact b e c
theorem zhj(g:Lex 0 l body)(c:Text l body t):Kh t body=t.binds:=by
 have d:=c.inc.sublist (Gu t);have⟨f,b⟩:=Za t body;refine zhi d b (λ_ h=>h) (ze0 ((ze1 g).sublist f) d λx=>?_);simp[List.mem_map];constructor
 ·rintro⟨m,a,rfl⟩;exact⟨m,b m a,rfl⟩
 ·rintro⟨m,a,rfl⟩;have⟨tk,i,e⟩:=X0 c (Cv t m a);cases h:t.binds.find? (λm=>m.bpl==tk.fr)with
  |none=>
   rw[List.find?_eq_none]at h;exact absurd (h m a) (by simp[e])
  |some m'=>
   refine⟨m',List.mem_filterMap.2 ⟨tk,i,h⟩,?_⟩;have:m'.bpl=tk.fr:=(by simpa using List.find?_some h);rw[this,e]
theorem ze2(g:Text l body t)(p q:Nat)(j:p∈t.places)(h:ixF body p=ixF body q):p=q:=by
 have⟨tk,k,e⟩:=X0 g j;have a:ixF body p<body.length:=List.findIdx_lt_length_of_exists ⟨tk,k,by simp[e]⟩;have b:=List.findIdx_getElem (w:=a);have i:ixF body q<body.length:=by rw[<-h];exact a
 have d:=List.findIdx_getElem (w:=i);have c:body[ixF body p].fr=p:=beq_iff_eq.1 b;have f:body[ixF body q].fr=q:=beq_iff_eq.1 d;have:body[ixF body p]=body[ixF body q]:=by congr 1
 rw[<-c,<-f,this]
end Tw.Rf
variable{l:List UInt8}{w:World}{body:List Tw.Tok}{t:Tw.T}
theorem ztk{a b:List Tw.Tok}(f:Lex 0 l a)(g:Lex 0 l b):a=b:=by
 have d:=J0.2 ⟨a,f,rfl⟩;have c:=J0.2 ⟨b,g,rfl⟩;rw[d]at c;injection c with e;exact List.append_cancel_right e
theorem Fq{b:Nat}{t:TypeId}{a0 a1 a2:Value}(h:zH w b #[a0,a1,a2] t):w.cell? (aD b 0)=some a0/\w.cell? (aD b 1)=some a1/\w.cell? (aD b 2)=some a2:=by
 refine⟨?_,?_,?_⟩<;>(rw[mB _ _ _ _ _ _ h];rfl)
theorem zob{m:Tw.T}(d:Lex 0 l body)(f:Tw.Text l body t)(i:m∈t.binds){tk:Tw.Tok}(j:tk∈body)(h:m.bpl=tk.fr):m.bname=Bv l tk.fr tk.to:=by
 have⟨k,g,_,a,b,c⟩:=f.span _ (Gi t m i);dsimp only at a b c;have e:k=tk:=Wm (ze1 d) g j (a.trans h);rw[c,<-b,<-a,e]
def zt0(w:World)(B:Nat)(v:Value)(E:List (Tw.T×Value)):Prop:=w.ownsRow B 48 3 v E.length (Cn E)/\∀e∈E,zbq w e.2 e.1.useS
theorem ze3{bt:Nat}{s:ByteArray}(hT:Rl w bt s t)(hop:Rc s.data.toList t body):Calls prog 69 #[pT bt] w λe w'=>(∃v,e=.returned v/\Yh w' v t.binds)/\zG w w':=by
 have⟨body',tv,nv,hL,hR,hG⟩:=hT;obtain rfl:body'=body:=ztk hL hop.lex;have hmany:=hR.many;have⟨i0,hi0,hz0,hz1,hz2⟩:=info_parts Tryz.zun;obtain⟨N,hN⟩:∃N,fill (ixF body') (ixT body') t 0 []=N:=⟨_,rfl⟩;have hTab:=Hy (ixF body') (ixT body') t 0 [];rw[hN]at hR hTab;have HT:=hop.text;obtain⟨⟨pt,ct,rfl⟩,-⟩:=Hr hR.Eh;have hii:(prog.info? 3).map (λi=>(i.zero,i.size,i.bytes))=some (some (vI 0),1,8):=kR;have⟨j0,hj0,hy0,hy1,hy2⟩:=info_parts hii;clear hN hG hop;go_in;go_wp21;go_loopg[3,4] body'.length (λm lv iv wr=>∃(i:Nat) (E:List (Tw.T×Value)),iv=vI i/\i+m=body'.length/\Hid (E.map (·.1)=Kh t (body'.take i))/\E.length<=i/\Hid (zt0 wr w.heap.size lv E)/\Hid (zG w wr))
 case atStart=>exact⟨0,[],rfl,oM,bV rfl,sM,bV ⟨mD _ _ _ _,λe he=>by cases he⟩,bV (Aa w)⟩
 case round=>
  obtain⟨i,E,rfl,him,HE,hEi,BE,GE⟩:=hrel;have R1:=hR.grown GE.o;have⟨_,c1,_,_,_⟩:=R1.cells;rcases jD (show i<=body'.length by omega)with he|hlt
  ·have hil:¬(i:Int)<(body'.length:Int):=oM;have HB:Yh wr u3 t.binds:=by
    refine bV ⟨E,?_,Lu BE.o.1,BE.o.2⟩;rw[HE.o,he,List.take_length];exact zhj hL HT
   go_wp21;go_ret;exact⟨⟨_,rfl,HB⟩,GE.o⟩
  ·have hil:(i:Int)<(body'.length:Int):=oM;obtain⟨tk,htk⟩:∃tk,body'[i]?=some tk:=⟨_,fA hlt⟩;have hix:=Fe hL htk;have htake:body'.take (i+1)=body'.take i++[tk]:=(by rw[List.take_add_one,htk];rfl);have BN:=zhh R1 i;cases hfd:t.binds.find? (λm=>m.bpl==tk.fr)with
   |none=>
    have hno:Rf.Dv N i = -1:=zn9 hTab λq hq e=>by
     rw[<-hix]at e;have e2:=ze2 HT _ _ (zhg hq) e;rw[List.find?_eq_none]at hfd;exact absurd (hfd q.1 (by rw[<-Gs t 0];exact List.mem_map_of_mem hq)) (by simp[e2])
    rw[hno]at BN;have HE2:E.map (·.1)=Kh t (body'.take (i+1)):=(by
     rw[htake,Kh,List.filterMap_append,List.filterMap_cons,hfd]
     have:=HE.o;unfold Kh at this;simp[this])
    clear hno hfd htake hix HE;go_wp21;go_call BN as e2 w2 ⟨rfl,hg2⟩;have B2:zt0 w2 w.heap.size u3 E:=⟨Bs BE.o.1 hg2,λe he=>Bs (BE.o.2 e he) hg2⟩;have G2:=Ab GE.o hg2;clear hg2 BN;go_wp21;go_roundg (body'.length-(i+1))
    case measure=>omega
    case rel=>exact⟨i+1,E,by push_cast;rfl,oM,HE2,oM,B2,G2⟩
   |some m=>
    have hmb:=List.mem_of_find?_eq_some hfd;have hmp:m.bpl=tk.fr:=(by simpa using List.find?_some hfd);obtain⟨q,hq,hqm⟩:∃q∈bl t 0,q.1=m:=by
     rw[<-Gs t 0,List.mem_map]at hmb;exact hmb
    have⟨m',k⟩:=q;dsimp only at hqm;subst hqm;have hyes:=zkd hTab HT.inc (ze2 HT) hq;dsimp only at hyes;rw[hmp,hix]at hyes;rw[hyes]at BN;have HUS:∀p,zdk N (ixF body' p)=(k:Int)↔p∈m'.useS:=λp=>ztj hTab HT.inc (ze2 HT) hq;have HE2:E.map (·.1)++[m']=Kh t (body'.take (i+1)):=(by
     rw[htake,Kh,List.filterMap_append,List.filterMap_cons,hfd]
     have:=HE.o;unfold Kh at this;simp[this])
    have HNM:m'.bname=Bv s.data.toList tk.fr tk.to/\m'.bpl=tk.fr:=⟨zob hL HT hmb (dD htk) hmp,hmp⟩;clear hyes hfd htake hix HE hq hmp;go_wp21;go_call BN as e2 w2 ⟨rfl,hg2⟩;have B2:zt0 w2 w.heap.size u3 E:=⟨Bs BE.o.1 hg2,λe he=>Bs (BE.o.2 e he) hg2⟩;have G2:=Ab GE.o hg2;have R2:=R1.grown hg2;clear hg2 BN c1 R1 BE GE;obtain⟨-,htc⟩:=Hr R2.Eh;obtain⟨gt,_,e,k0,-,k2⟩:=htc i tk htk;cases e;have⟨_,c1,_,_,_⟩:=R2.cells;go_upto_region 7 with fail;have hmx:prog.follows .mixedOrders=true:=kR;refine Ga (λW=>W.cell? (aD bt 1)=some (sL gt body'.length ct)/\W.cell? (aD gt (i*3))=some (.string ⟨(Bv s.data.toList tk.fr tk.to).toArray⟩)/\W.cell? (aD gt (i*3+2))=some (vI tk.fr)) hmx ⟨c1,k0,k2⟩ ?_;intro hSd;have GD:w2.grownBy w2.drew none:=Ad (Aa w2);obtain⟨wd,hwd⟩:∃wd,w2.drew=wd:=⟨_,rfl⟩;rw[hwd]at hSd GD;rw[hwd];clear hwd c1 k0 k2;refine tkH 0 (v:=pT bt) rfl (λW ⟨e1,e2,e3⟩=>by go_simp) hSd ?_;simp[Act.put];refine tkH 1 (v:=pT bt) rfl (λW ⟨e1,e2,e3⟩=>by go_simp) hSd ?_;simp[Act.put];refine tkH 2 (v:=.pointer (some (aD bt 1))) rfl (λW ⟨e1,e2,e3⟩=>by go_simp) hSd ?_;simp[Act.put];refine tkH 3 (v:=sL gt body'.length ct) rfl (λW ⟨e1,e2,e3⟩=>by go_simp) hSd ?_;simp[Act.put];refine tkH 4 (v:=vI i) rfl (λW ⟨e1,e2,e3⟩=>by go_simp) hSd ?_;simp[Act.put];refine tkH 5 (v:=.pointer (some (aD gt (i*3)))) rfl (λW ⟨e1,e2,e3⟩=>by go_simp) hSd ?_;simp[Act.put];refine tkH 6 (v:=.pointer (some (aD gt (i*3)))) rfl (λW ⟨e1,e2,e3⟩=>by go_simp) hSd ?_;simp[Act.put];refine tkH 7 (v:=.string ⟨(Bv s.data.toList tk.fr tk.to).toArray⟩) rfl (λW ⟨e1,e2,e3⟩=>by go_simp) hSd ?_;simp[Act.put];refine tkH 8 (v:=pT bt) rfl (λW ⟨e1,e2,e3⟩=>by go_simp) hSd ?_;simp[Act.put];refine tkH 9 (v:=pT bt) rfl (λW ⟨e1,e2,e3⟩=>by go_simp) hSd ?_;simp[Act.put];refine tkH 10 (v:=.pointer (some (aD bt 1))) rfl (λW ⟨e1,e2,e3⟩=>by go_simp) hSd ?_;simp[Act.put];refine tkH 11 (v:=sL gt body'.length ct) rfl (λW ⟨e1,e2,e3⟩=>by go_simp) hSd ?_;simp[Act.put];refine tkH 12 (v:=vI i) rfl (λW ⟨e1,e2,e3⟩=>by go_simp) hSd ?_;simp[Act.put];refine tkH 13 (v:=.pointer (some (aD gt (i*3)))) rfl (λW ⟨e1,e2,e3⟩=>by go_simp) hSd ?_;simp[Act.put];refine tkH 14 (v:=.pointer (some (aD gt (i*3+2)))) rfl (λW ⟨e1,e2,e3⟩=>by go_simp) hSd ?_;simp[Act.put];refine tkH 15 (v:=vI tk.fr) rfl (λW ⟨e1,e2,e3⟩=>by go_simp) hSd ?_;simp[Act.put];refine tkH 16 (v:=.agg #[.string ⟨(Bv s.data.toList tk.fr tk.to).toArray⟩,vI tk.fr,zN]) rfl (λW ⟨e1,e2,e3⟩=>by go_simp) hSd ?_;simp[Act.put];refine gE (rs:=[17]) kR sM ?_;refine yA rfl (λK hK=>?_) zA;go_simp;have GZ:=zwA wd (.cells #[.string ⟨#[]⟩,vI 0,zN] 48) none;refine hK.out _ _ ⟨cell_kept hSd.1 GZ sM,cell_kept hSd.2.1 GZ sM,cell_kept hSd.2.2 GZ sM⟩ (λ_=>?_);clear hK K;refine gE (rs:=[18]) kR sM ?_;refine yA rfl (λK hK=>?_) zA;go_simp;have GB:=zwA wd (.cells #[.string ⟨(Bv s.data.toList tk.fr tk.to).toArray⟩,vI tk.fr,zN] 48) none;have NB:=Ac wd (.cells #[.string ⟨(Bv s.data.toList tk.fr tk.to).toArray⟩,vI tk.fr,zN] 48);refine hK.out _ _ ⟨cell_kept hSd.1 GB sM,cell_kept hSd.2.1 GB sM,cell_kept hSd.2.2 GB sM⟩ (λ_=>?_);clear hK K;obtain⟨w3,hw3⟩:∃w3,wd.alloc (.cells #[.string ⟨(Bv s.data.toList tk.fr tk.to).toArray⟩,vI tk.fr,zN] 48)=w3:=⟨_,rfl⟩;obtain⟨nb,hnb⟩:∃nb,wd.heap.size=nb:=⟨_,rfl⟩;rw[hw3]at GB NB;rw[hnb]at NB;rw[hw3,hnb];have hz3:w2.heap.size<=nb:=(by rw[<-hnb];exact GD.size);have G3:=Ab GD GB;have G3:=Ab G2 G3;have GY0:=Ab GD GB;clear GB hw3 hnb GD GZ hSd G3;refine iE kR ⟨rfl,?_⟩ _;go_wp21;go_loopg[7] body'.length (λm jv wy=>∃(j:Nat) (uv:Value),jv=vI j/\j+m=body'.length/\Hid (zH wy nb #[.string ⟨(Bv s.data.toList tk.fr tk.to).toArray⟩,vI tk.fr,uv] 48)/\Hid (wy.ownsRow w2.heap.size 3 1 uv (Lc m' (body'.take j)).length ((Lc m' (body'.take j)).map λf:Nat=>vI f))/\(Lc m' (body'.take j)).length<=j/\Hid (zG w2 wy))
    case atStart=>exact⟨0,zN,rfl,oM,NB,bV (mD _ _ _ _),by simp[Lc],GY0⟩
    case round=>
     obtain⟨j,uv,rfl,hjm,NY,UY,hUj,GY⟩:=hrel;have RY:=R2.grown GY.o;have⟨_,c1,_,_,_⟩:=RY.cells;obtain⟨U,hU⟩:∃U,Lc m' (body'.take j)=U:=⟨_,rfl⟩;rw[hU]at UY hUj;rcases jD (show j<=body'.length by omega)with he|hlt2
     ·have hjl:¬(j:Int)<(body'.length:Int):=oM;have eU:U=m'.useS:=by
       rw[<-hU,he,List.take_length];exact zke hL HT hmb
      rw[eU]at UY;obtain⟨pl,cl,rfl⟩:∃p c,u3=.slice p E.length c:=by
       rcases B2.1.2 with⟨e1,e2⟩|⟨g2,cap2,_,e1,_⟩
       ·exact⟨_,_,by rw[e1,e2]⟩
       ·exact⟨_,_,e1⟩
      obtain⟨pv,cv,rfl⟩:∃p c,uv=.slice p m'.useS.length c:=by
       rcases UY.o.2 with⟨e1,e2⟩|⟨g2,cap2,_,e1,_⟩
       ·exact⟨_,_,by rw[e1,e2]⟩
       ·exact⟨_,_,e1⟩
      have GA:=zwA wr (.cells #[.string ⟨(Bv s.data.toList tk.fr tk.to).toArray⟩,vI tk.fr,.slice pv m'.useS.length cv] 48) none;have NA:=Ac wr (.cells #[.string ⟨(Bv s.data.toList tk.fr tk.to).toArray⟩,vI tk.fr,.slice pv m'.useS.length cv] 48);have GY2:=Ab GY.o GA;have BA:zt0 (wr.alloc (.cells #[.string ⟨(Bv s.data.toList tk.fr tk.to).toArray⟩,vI tk.fr,.slice pv m'.useS.length cv] 48)) w.heap.size (.slice pl E.length cl) E:=⟨Bs B2.1 GY2,λe he=>Bs (B2.2 e he) GY2⟩;have UA:=Bs UY.o GA;have GW:=Ab G2 GY2;have UA:=Lu UA;have NA:=jE NA;have⟨y0,y1,y2⟩:=Fq NY.o;have hmx2:E.length+1<=maxLen:=(by unfold maxLen;omega);have HZW:=GW.size;clear GA GY2 eU hU NY UY GY RY NB GY0;go_wp2_with (at_builtin;refine wpList_append_lies _ rfl _ _ 45 rfl w.heap.size 48 i0 (.agg #[.string ⟨#[]⟩,vI 0,zN]) 3 48 underlying45 hi0 hz0 hz1 hz2 rfl dZ (.slice pl E.length cl) E.length (Cn E) rfl BA.1 (aD wr.heap.size 0) 1 1 [.string ⟨(Bv s.data.toList tk.fr tk.to).toArray⟩,vI tk.fr,.slice pv m'.useS.length cv] rfl rfl NA (by intro u hu;simp at hu;rcases hu with rfl|rfl|rfl<;>rfl) dZ hmx2 oM HZW _ rfl ?_;intro g7 cap7 w7 hown7 hgrow7 _ _;have O7:=bV hown7;have G7:=bV hgrow7;clear hown7 hgrow7);go_roundg (body'.length-(i+1))
      case measure=>omega
      case rel=>
       refine⟨i+1,E++[(m',.slice pv m'.useS.length cv)],by push_cast;rfl,oM,bV (by rw[vB];exact HE2),by simp;omega,bV ⟨?_,λe he=>?_⟩,bV (zj4 GW BA.1 G7)⟩
       ·rw[Qp,eA,HNM.1,HNM.2];exact O7
       ·rcases zmA.1 he with he|he
        ·exact Ai (BA.2 e he) λg c hc=>Eu BA.1 G7 hc dZ
        ·simp at he;subst he;exact Ai UA λg c hc=>Eu BA.1 G7 hc dZ
     ·have hjl:(j:Int)<(body'.length:Int):=oM;obtain⟨tj,htj⟩:∃tj,body'[j]?=some tj:=⟨_,fA hlt2⟩;have hjx:=Fe hL htj;have hus:=HUS tj.fr;rw[hjx]at hus;have htj2:Lc m' (body'.take (j+1))=U++(if tj.fr∈m'.useS then[tj.fr]else[]):=by
       rw[List.take_add_one,htj,Lc,List.filter_append,vB]
       have:=hU;unfold Lc at this;rw[this];congr 1;by_cases h:tj.fr∈m'.useS<;>simp[h]
      obtain⟨ub,hub⟩:∃ub,zdk N j=ub:=⟨_,rfl⟩;have UD:=zoa RY j;rw[hub]at hus UD;clear hub hjx hU;by_cases hk:ub=(k:Int)
      ·rw[mA (hus.1 hk)]at htj2;subst hk;clear hus;go_wp21;go_call UD as e4 w4 ⟨rfl,hg4⟩;have N4:=zbG hg4 NY.o;have U4:=Bs UY.o hg4;have G4:=Ab GY.o hg4;have R4:=R2.grown G4;obtain⟨pu,cu,rfl⟩:∃p c,uv=.slice p U.length c:=by
        rcases UY.o.2 with⟨e1,e2⟩|⟨g2,cap2,_,e1,_⟩
        ·exact⟨_,_,by rw[e1,e2]⟩
        ·exact⟨_,_,e1⟩
       clear hg4 UD c1 NY UY GY RY;obtain⟨-,htc⟩:=Hr R4.Eh;obtain⟨gt',_,e,-,-,k2⟩:=htc j tj htj;cases e;have⟨_,c1,_,_,_⟩:=R4.cells;have⟨_,_,y2⟩:=Fq N4;go_upto_region 13 with fail;have CL:∀W:World,zG w2 W->W.cell? (aD bt 1)=some (sL gt body'.length ct)/\W.cell? (aD gt (j*3+2))=some (vI tj.fr):=λW hW=>by
        obtain⟨-,htc⟩:=Hr (R2.grown hW).Eh;obtain⟨_,_,e,-,-,k2⟩:=htc j tj htj;cases e;exact⟨(R2.grown hW).cells.2.1,k2⟩
       refine Ga (λW=>W.cell? (aD bt 1)=some (sL gt body'.length ct)/\W.cell? (aD gt (j*3+2))=some (vI tj.fr)) hmx (CL _ (Ad G4)) ?_;intro hSd;have GD:w4.grownBy w4.drew none:=Ad (Aa w4);obtain⟨wd,hwd⟩:∃wd,w4.drew=wd:=⟨_,rfl⟩;rw[hwd]at hSd GD;rw[hwd];clear hwd c1 k2 y2;have ND:=zbG GD N4;have UDd:=Bs U4 GD;have GDD:=Ab G4 GD;clear GD N4 U4 G4 R4;refine tkH 0 (v:=.pointer (some (aD nb 2))) rfl (λW ⟨e1,e2⟩=>by go_simp) hSd ?_;simp[Act.put];refine tkH 2 (v:=pT bt) rfl (λW ⟨e1,e2⟩=>by go_simp) hSd ?_;simp[Act.put];refine tkH 3 (v:=pT bt) rfl (λW ⟨e1,e2⟩=>by go_simp) hSd ?_;simp[Act.put];refine tkH 4 (v:=.pointer (some (aD bt 1))) rfl (λW ⟨e1,e2⟩=>by go_simp) hSd ?_;simp[Act.put];refine tkH 5 (v:=sL gt body'.length ct) rfl (λW ⟨e1,e2⟩=>by go_simp) hSd ?_;simp[Act.put];refine tkH 6 (v:=vI j) rfl (λW ⟨e1,e2⟩=>by go_simp) hSd ?_;simp[Act.put];refine tkH 7 (v:=.pointer (some (aD gt (j*3)))) rfl (λW ⟨e1,e2⟩=>by go_simp) hSd ?_;simp[Act.put];refine tkH 8 (v:=.pointer (some (aD gt (j*3+2)))) rfl (λW ⟨e1,e2⟩=>by go_simp) hSd ?_;simp[Act.put];refine tkH 9 (v:=vI tj.fr) rfl (λW ⟨e1,e2⟩=>by go_simp) hSd ?_;simp[Act.put];obtain⟨-,-,y2⟩:=Fq ND;have y2':(wd.alloc (.cells #[vI tj.fr] 3)).cell? (aD nb 2)=some (.slice pu U.length cu):=(Fq (((zwA wd (.cells #[vI tj.fr] 3) none).block nb (zgE.1 ND).1 sM).trans ND)).2.2;refine gE (rs:=[1,10]) kR sM ?_;refine yA rfl (λK hK=>?_) (yA rfl (λK hK=>?_) zA)
       case' _=>
        go_simp;refine hK.out _ _ hSd (λ_=>?_);clear hK K;refine gE (rs:=[10]) kR sM ?_;refine yA rfl (λK hK=>?_) zA;go_simp;refine hK.out _ _ (CL _ (Aj GDD _)) (λ_=>?_);clear hK K
       rotate_left
       case' _=>
        go_simp;refine hK.out _ _ (CL _ (Aj GDD _)) (λ_=>?_);clear hK K;refine gE (rs:=[1]) kR sM ?_;refine yA rfl (λK hK=>?_) zA;go_simp;refine hK.out _ _ (CL _ (Aj GDD _)) (λ_=>?_);clear hK K
       all_goals
        clear y2 y2';have GA:=zwA wd (.cells #[vI tj.fr] 3) none;have NA:(wd.alloc (.cells #[vI tj.fr] 3)).heap[wd.heap.size]?=some (.cells #[vI tj.fr] 3):=Ac wd _;have NDA:=zbG GA ND;have UA:=Bs UDd GA;have GAA:=Ab GDD GA;obtain⟨wa,hwa⟩:∃wa,wd.alloc (.cells #[vI tj.fr] 3)=wa:=⟨_,rfl⟩;rw[hwa]at NA NDA UA GAA;rw[hwa];have hzw:=GAA.size;clear hwa GA hSd;refine gE (rs:=[11]) kR sM ?_;refine yA rfl (λK hK=>?_) zA;rw[mA (by rfl)];refine wp_append_lies _ _ _ 33 rfl w2.heap.size 3 j0 (vI 0) 1 8 underlying33 hj0 hy0 hy1 hy2 rfl dZ (.slice pu U.length cu) U.length (U.map λf:Nat=>vI f) rfl UA (aD wd.heap.size 0) 1 1 [vI tj.fr] rfl rfl (jE NA) (by intro u hu;simp at hu;subst hu;rfl) dZ (by unfold maxLen;omega) oM hzw _ rfl ?_;intro g5 cap5 w5 hown5 hgrow5 _ _;have G5:zG w2 w5:=⟨hgrow5.os.trans GAA.os,hgrow5.tape.trans GAA.tape,hgrow5.output.trans GAA.output,kB GAA.size hgrow5.size,λq hq _=>(hgrow5.block q (aB hq GAA.size) (λe=>by have:=(UA.lt q e.symm).1;omega)).trans (GAA.block q hq sM)⟩;have N5:=Eu UA hgrow5 NDA dZ;have C5:=CL _ G5;have y5:=(Fq N5).2.2;have f5:w5.frozen? (aD nb 2)=false:=eB _ _ _ _ _ N5;have N6:=Bu (j:=2) N5 (sL g5 (U.length+1) cap5);have G6:w2.grownBy (w5.setCell (aD nb 2) (sL g5 (U.length+1) cap5)) none:=⟨G5.os,G5.tape,G5.output,by simpa using G5.size,λq hq _=>(aA w5 (aD nb 2) q _ (by simp;omega)).trans (G5.block q hq sM)⟩;have C6:=CL _ G6;have O6:=Ai hown5 λg' c hc=>(aA w5 (aD nb 2) g' (sL g5 (U.length+1) cap5) (by rintro rfl;cases N5.symm.trans hc)).trans hc;have O6:=O6;have G6:=G6;have N6:=N6;clear hgrow5 G5 N5;refine hK.out _ _ C5 (λ_=>?_);clear hK K;refine gE (rs:=[12]) kR sM ?_;refine yA rfl (λK hK=>?_) zA;go_simp;refine hK.out _ _ C5 (λ_=>?_);clear hK K;refine gE (rs:=[13]) kR sM ?_;refine yA rfl (λK hK=>?_) zA;go_simp;refine hK.out _ _ C6 (λ_=>?_);clear hK K C5 C6 y5 f5;refine iE kR ⟨rfl,?_⟩ _;obtain⟨w6,hw6⟩:∃w6,w5.setCell (aD nb 2) (sL g5 (U.length+1) cap5)=w6:=⟨_,rfl⟩;rw[hw6]at O6 G6 N6;rw[hw6];clear hw6;go_wp21;go_roundg (body'.length-(j+1))
        case measure=>omega
        case rel=>
         refine⟨j+1,_,by push_cast;rfl,oM,N6,?_,?_,G6⟩
         ·rw[htj2,eA,vB];exact O6
         ·rw[htj2,eA];simp;omega
      ·rw[jA (λh=>hk (hus.2 h)),List.append_nil]at htj2;clear hus;go_wp21;go_call UD as e4 w4 ⟨rfl,hg4⟩;have N4:=zbG hg4 NY.o;have U4:w4.ownsRow w2.heap.size 3 1 uv (Lc m' (body'.take (j+1))).length ((Lc m' (body'.take (j+1))).map λf:Nat=>vI f):=(by rw[htj2];exact bV (Bs UY.o hg4));have G4:=Ab GY.o hg4;have HL4:(Lc m' (body'.take (j+1))).length<=j+1:=(by rw[htj2];omega);clear hg4 UD;go_wp21;go_roundg (body'.length-(j+1))
       case measure=>omega
       case rel=>exact⟨j+1,uv,by push_cast;rfl,oM,N4,U4,HL4,G4⟩
end
end
section
open Go.Proofs.Tryz
open Go.RowKit
theorem zoc(a:zU)(c:Nat):Value.string (({data:=a.toArray}:ByteArray) ++ {data:=#[97+UInt8.ofNat c]})=ug (a++[UInt8.ofNat (97+c)]):=by
 have e:(97+UInt8.ofNat c:UInt8)=UInt8.ofNat (97+c):=by simp[UInt8.ofNat_add]
 rw[e];exact Gd a [UInt8.ofNat (97+c)]
theorem zod(k:Nat)(l:k<9223372036854775808)(w:World):Calls prog 127 #[vI k] w λe w'=>(∃d,e=.returned (ug d)/\d.length<=10)/\zG w w':=by
 go_in;go_wp21;go_loopg[0,3,4] 9 (λn o p m wr=>∃(x i:Nat) (a:zU),o=vI x/\p=ug a/\m=vI i/\i+n=9/\x<9223372036854775808/\a.length<=i+1/\(zG w wr))
 case atStart=>exact⟨k,0,[35],rfl,rfl,rfl,oM,l,sM,(Aa _)⟩
 case round=>
  obtain⟨x,i,a,rfl,rfl,rfl,s,v,c,b⟩:=hrel;rcases jD (show i<=9 by omega)with rfl|t
  ·have g:=c;go_wp21;go_ret;exact⟨⟨a,rfl,g⟩,b⟩
  ·have r:(i:Int)<9:=oM;have j:=Ox wr (UInt8.ofNat (97+x % 16));have h:((UInt8.ofNat (97+x % 16)).toNat:Int)=97+(x:Int) % 16:=by
    simp[UInt8.toNat_ofNat];omega
   rw[h]at j;have has:a.toArray.size<=10:=(by simp;omega);have q:a.length<=10:=oM;have f:w.grownBy (wr.alloc (.cells #[vU (97+(x:Int) % 16)] 5)) none:=Aj b _;go_wp21;go_roundg (9-(i+1))
   case measure=>omega
   case rel=>exact⟨x / 16,i+1,a++[UInt8.ofNat (97+x % 16)],by go_num,zoc _ _,by push_cast;rfl,oM,oM,by have:=c;simp;omega,f⟩
end
section
open Go.RowKit
section
variable{P:Program}{o:Oper}{a:Act}{Q:Exit->Act->World->Prop}
theorem X7(w:World)(t r:TypeId)(base:Nat)(e:TypeId)(i:TypeInfo)(z:Value)(size A:Nat)(y:P.underlying t=some (.slice e))(hi:P.info? e=some i)(E:i.zero=some z)
  (L:i.size=size) (I:i.bytes=A) (a0:z.cells.size=size) (Y:0<size)
  (v:Value) (n:Nat) (h:List Value) (p:w.ownsRow base e size v n h)
  (f:Addr) (m c:Nat) (b:List Value) (s:b.length=m*size) (x:∀j u,b[j]?=some u->w.cell? (f.add j)=some u) (G:∀u∈b,u.oneCell'=true)
  (W:0<m) (H:n+m<=maxLen) (C:(n+m)*A<=140737488355328) (T:base<=w.heap.size) :
  ∃g cap w',(Builtin.append_ #[t,t] r #[v,.slice (some f) m c]).run P w=.ok (sL g (n+m) cap) w' /\
   w'.ownsRow base e size (sL g (n+m) cap) (n+m) (h++b)/\((v.ownBlock=some g/\w.grownBy w' (some g))\/(g=w.heap.size/\zG w w'))/\g<w'.heap.size:=by
 obtain⟨g,cap,w',d,N,O,h4,R⟩:=run_append_lies (P:=P) w t r base e i z size A y hi E L I a0 Y v n h p f m c b s x G W H C T _ rfl;refine⟨g,cap,w',d,N,?_,R⟩;have a5:n+m<=9223372036854775807:=by simp only[maxLen]at H;omega
 subst L I;rcases p.2 with⟨rfl,rfl⟩|⟨l,B,F,rfl,a1,V,a4,a2,a3,a6⟩
 ·have Z:h=[]:=List.length_eq_zero_iff.1 (by have:=p.1;omega);subst Z;have q:=run_append_nil (P:=P) w t r e i z y hi E f m c b s x oM oM (by have S:=C;simp only[Nat.zero_add]at S;omega);rw[q]at d;injection d with e1 e2;injection e1 with e3;subst e2;exact .inr ⟨by simpa using e3.symm,⟨rfl,rfl,rfl,sM,λk D _=>heap_alloc_old w.drew _ D⟩⟩
 ·by_cases J:n+m<=B
  ·have U:n*i.size+b.length<=F.size:=by
    have:=fD i.size J;rw[Nat.add_mul]at this;omega
   have q:=run_append_room (P:=P) w t r e i y hi l n B F V f m c b s x G J U;rw[q]at d;injection d with e1 e2;injection e1 with e3;have M:l=g:=(by simpa using e3);subst M;exact .inl ⟨rfl,O⟩
  ·have X:∀j u,h[j]?=some u->w.cell? (((aD l 0):Addr).add j)=some u:=p.cells (g:=l) rfl;have q:=run_append_grow (P:=P) w t r e i z y hi E (aD l 0) n B h p.1 X f m c b s x oM oM (growslice_fits oM C);rw[q]at d;injection d with e1 e2;injection e1 with e3;subst e2;exact .inr ⟨by simpa using e3.symm,⟨rfl,rfl,rfl,sM,λk D _=>heap_alloc_old w.drew _ D⟩⟩
theorem Md(w:World){K:Act->World->Prop}(s x:Operand)(t:TypeId)
  (G:o.op=.call {callee:=.builtin .append,args:=#[s,x],argTypes:=#[t,t]})
  (base:Nat) (e:TypeId) (i:TypeInfo) (z:Value) (size f:Nat) (N:P.underlying t=some (.slice e)) (hi:P.info? e=some i) (R:i.zero=some z)
  (L:i.size=size) (B:i.bytes=f) (S:z.cells.size=size) (M:0<size)
  (v:Value) (n:Nat) (k:List Value) (J:a.eval s=v) (H:w.ownsRow base e size v n k)
  (d:Addr) (m c:Nat) (b:List Value) (O:a.eval x=.slice (some d) m c) (D:b.length=m*size) (F:∀j u,b[j]?=some u->w.cell? (d.add j)=some u) (l:∀u∈b,u.oneCell'=true)
  (E:0<m) (y:n+m<=maxLen) (C:(n+m)*f<=140737488355328) (A:base<=w.heap.size)
  (h:∀g cap w',w'.ownsRow base e size (sL g (n+m) cap) (n+m) (k++b)->((v.ownBlock=some g/\w.grownBy w' (some g))\/(g=w.heap.size/\zG w w'))->g<w'.heap.size->K (a.put o.dst (sL g (n+m) cap)) w'):o.wp P a w K Q:=by
 obtain⟨g,cap,w',I,p,q,r⟩:=X7 (P:=P) w t o.type base e i z size f N hi R L B S M v n k H d m c b D F l E y C A;unfold Oper.wp execOp;simp only[G,resolve,invoke,builtin,Sem.run_bind,Sem.run_pure,Result.andThen_ok,List.map_toArray,List.map_cons,List.map_nil,J,O,I];exact h g cap w' p q r
theorem Dy(w:World){l:Array Oper}{rest:List Oper}(E:o.guard=none)(s x:Operand)(t:TypeId)
  (I:o.op=.call {callee:=.builtin .append,args:=#[s,x],argTypes:=#[t,t]})
  (base:Nat) (e:TypeId) (i:TypeInfo) (z:Value) (size f:Nat) (O:P.underlying t=some (.slice e)) (hi:P.info? e=some i) (S:i.zero=some z)
  (M:i.size=size) (C:i.bytes=f) (T:z.cells.size=size) (N:0<size)
  (v:Value) (n:Nat) (k:List Value) (L:a.eval s=v) (J:w.ownsRow base e size v n k)
  (d:Addr) (m c:Nat) (b:List Value) (R:a.eval x=.slice (some d) m c) (F:b.length=m*size) (H:∀j u,b[j]?=some u->w.cell? (d.add j)=some u) (p:∀u∈b,u.oneCell'=true)
  (G:0<m) (A:n+m<=maxLen) (D:(n+m)*f<=140737488355328) (B:base<=w.heap.size)
  (h:∀g cap w',w'.ownsRow base e size (sL g (n+m) cap) (n+m) (k++b)->((v.ownBlock=some g/\w.grownBy w' (some g))\/(g=w.heap.size/\zG w w'))->g<w'.heap.size->wpList P l Q rest (a.put o.dst (sL g (n+m) cap)) w'):wpList P l Q (o::rest) a w:=
 wpList_plain E λ_ hK=>Md w s x t I base e i z size f O hi S M C T N v n k L J d m c b R F H p G A D B λg cap w' q r y=>hK _ _ (h g cap w' q r y)
end
end
section
open Go.Proofs.Tryz
open Go.RowKit
section
variable{w wr wa w9:World}{v tx bn bm nu nm l nu' nm' lv:Value}{m:Int}{bw count C g9 q n9 cap9 K:Nat}{NU MV add:List Value}
def Tz(w:World)(v:Value)(m:Int):Prop:=(∃c,v=.slice none 0 c)\/∃g n c,v=.slice (some ⟨g,0,none⟩) n c/\n<=maxLen/\(∃a,w.heap[g]?=some (.cells a 3 (0,0)))/\∀k,k<n->w.cell? ⟨g,k,none⟩=some (.int .i64 m)
theorem Tz.Aq{w':World}(h:Tz w v m)(b:∀ {g:Nat} {c:Array Value},zH w g c 3->w'.heap[g]?=w.heap[g]?):Tz w' v m:=by
 rcases h with h|⟨g,n,c,rfl,i,⟨d,a⟩,e⟩
 ·exact .inl h
 ·exact .inr ⟨g,n,c,rfl,i,⟨d,(b a).trans a⟩,λk f=>(vD (b a)).trans (e k f)⟩
theorem Tz.zks{B n:Nat}(h:Bf w B 3 v (List.replicate n (vI m))):Tz w v m:=by
 rcases h.2 with⟨a,_⟩|⟨g,c,j,a,_,d,e,f,_⟩
 ·exact .inl ⟨0,a⟩
 ·refine .inr ⟨g,_,c,a,kB e f,⟨_,d⟩,λk i=>?_⟩;have b:=h;unfold Bf at b;rw[a]at b;rw[b.cellAt k oM,kD,mA (by simpa using i)]
def LwC(w:World)(bw:Nat)(tx bn bm nu nm:Value)(count:Nat):Prop:=w.heap[bw]?=some (.cells #[tx,bn,bm,nu,nm,.int .i64 count] 61 (0,0))
theorem LwC.cells(h:LwC w bw tx bn bm nu nm count):w.cell? (aD bw 0)=some tx/\w.cell? (aD bw 1)=some bn/\w.cell? (aD bw 2)=some bm/\w.cell? (aD bw 3)=some nu/\w.cell? (aD bw 4)=some nm/\w.cell? (aD bw 5)=some (vI count):=by
 refine⟨?_,?_,?_,?_,?_,?_⟩<;>(rw[mB _ _ _ _ _ _ h];rfl)
structure InF(w w':World)(bw:Nat)(nu nm l:Value):Prop where
 os:w'.os=w.os
 tape:w'.tape=w.tape
 output:w'.output=w.output
 size:w.heap.size<=w'.heap.size
 block:∀ {k:Nat},k<w.heap.size->k≠bw->some k≠nu.ownBlock->some k≠nm.ownBlock->some k≠l.ownBlock->w'.heap[k]?=w.heap[k]?
structure InQ(w w':World)(bw:Nat)(tx bn bm nu nm l:Value)(NU MV:List Value)(c:Nat)(nu' nm':Value)(add:List Value)(q:Nat):Prop where
 frame:InF w w' bw nu nm l
 lw:LwC w' bw tx bn bm nu' nm' c
 Jc:Bf w' 0 33 nu' (NU++add)
 marks:Bf w' 0 3 nm' (MV++List.replicate q (.int .i64 (-(c:Int))))
 recs:∀v∈add,Tz w' v (-(c:Int))/\∀g,v.ownBlock=some g->(l.ownBlock=some g\/w.heap.size<=g)/\nm'.ownBlock≠some g
 nu':∀g,nu'.ownBlock=some g->nu.ownBlock=some g\/w.heap.size<=g
 nm':∀g,nm'.ownBlock=some g->nm.ownBlock=some g\/w.heap.size<=g
abbrev InP(w w':World)(bw:Nat)(tx bn bm nu nm l:Value)(NU MV:List Value)(c:Nat)(nu' nm':Value)(add:List Value):Prop:=InQ w w' bw tx bn bm nu nm l NU MV c nu' nm' add add.length
theorem InQ.lw9(P:InQ w wr bw tx bn bm nu nm l NU MV C nu' nm' add q)(a:zG wr wa)
  (f:(nu'.ownBlock=some g9/\wa.grownBy w9 (some g9))\/(g9=wa.heap.size/\zG wa w9)):LwC w9 bw tx bn bm nu' nm' C:=by
 have g:=a.size;have d:=(zgE.1 P.lw).1;have e:w9.heap[bw]?=wr.heap[bw]? :=by
  rcases f with⟨c,b⟩|⟨c,b⟩
  ·exact(b.block bw oM (λe=>by cases e;exact P.Jc.ne dZ P.lw c.symm)).trans (a.block bw d sM)
  ·exact(b.block bw oM sM).trans (a.block bw d sM)
 exact e.trans P.lw
theorem InQ.zwj(P:InQ w wr bw tx bn bm nu nm l NU MV C nu' nm' add q)(a:zG wr wa)
  (f:(nm'.ownBlock=some g9/\wa.grownBy w9 (some g9))\/(g9=wa.heap.size/\zG wa w9)):LwC w9 bw tx bn bm nu' nm' C:=by
 have g:=a.size;have d:=(zgE.1 P.lw).1;have e:w9.heap[bw]?=wr.heap[bw]? :=by
  rcases f with⟨c,b⟩|⟨c,b⟩
  ·exact(b.block bw oM (λe=>by cases e;exact P.marks.ne dZ P.lw c.symm)).trans (a.block bw d sM)
  ·exact(b.block bw oM sM).trans (a.block bw d sM)
 exact e.trans P.lw
theorem InQ.record(P:InQ w wr bw tx bn bm nu nm l NU MV C nu' nm' add q)(y:Bf wr 0 3 lv (List.replicate K (vI (-(C:Int)))))
  (O:∀g,lv.ownBlock=some g->(l.ownBlock=some g\/w.heap.size<=g)/\nm'.ownBlock≠some g) (i:zG wr wa)
  (n:(nu'.ownBlock=some g9/\wa.grownBy w9 (some g9))\/(g9=wa.heap.size/\zG wa w9)) (B:Bf w9 0 33 (sL g9 n9 cap9) (NU++add++[lv])) :
  InQ w (w9.setCell (aD bw 3) (sL g9 n9 cap9)) bw tx bn bm nu nm l NU MV C (sL g9 n9 cap9) nm' (add++[lv]) q/\Bf (w9.setCell (aD bw 3) (sL g9 n9 cap9)) 0 3 lv (List.replicate K (vI (-(C:Int)))):=by
 have J:=P.frame.size;have I:=i.size;have stay:∀k,k<wr.heap.size->nu'.ownBlock≠some k->w9.heap[k]?=wr.heap[k]? :=λk A G=>by
  rcases n with⟨e,a⟩|⟨e,a⟩
  ·exact(a.block k oM (λf=>by cases f;exact G e)).trans (i.block k A sM)
  ·exact(a.block k oM sM).trans (i.block k A sM)
 have H:wr.heap.size<=w9.heap.size:=by rcases n with⟨_,a⟩|⟨_,a⟩<;>(have:=a.size;omega)
 have typ:∀ {k:Nat} {c:Array Value} {d:TypeId},d≠33->zH wr k c d->w9.heap[k]?=wr.heap[k]? :=λ{k c d} p b=>stay k (zgE.1 b).1 (λf=>P.Jc.ne p b f.symm);have r:zH w9 bw #[tx,bn,bm,nu',nm',vI C] 61:=(typ dZ P.lw).trans P.lw;have D:∀ {k:Nat} {c:Array Value} {d:TypeId},d≠61->zH w9 k c d->(w9.setCell (aD bw 3) (sL g9 n9 cap9)).heap[k]?=w9.heap[k]? :=λ{k c d} p b=>aA w9 (aD bw 3) k _ (by rintro rfl;cases r.symm.trans b;exact p rfl);have o:∀ {k:Nat} {c:Array Value} {d:TypeId},d≠33->d≠61->zH wr k c d->(w9.setCell (aD bw 3) (sL g9 n9 cap9)).heap[k]?=wr.heap[k]? :=λ{k c d} e a b=>by
  have:=typ e b;exact(D a (this.trans b)).trans this
 have fr:w9.os=wr.os/\w9.tape=wr.tape/\w9.output=wr.output:=by rcases n with⟨_,a⟩|⟨_,a⟩<;>exact⟨a.os.trans i.os,a.tape.trans i.tape,a.output.trans i.output⟩
 have z:Bf (w9.setCell (aD bw 3) (sL g9 n9 cap9)) 0 3 lv (List.replicate K (vI (-(C:Int)))):=y.kept λg h=>by
  have⟨c,b⟩:=y.blk h;exact o dZ dZ b
 refine⟨⟨⟨fr.1.trans P.frame.os,fr.2.1.trans P.frame.tape,fr.2.2.trans P.frame.output,by simp;omega,λ{k} e a x E F=>?_⟩,?_,?_,P.marks.kept λg h=>?_,λv j=>?_,λg h=>?_,P.nm'⟩,z⟩
 ·refine(aA w9 (aD bw 3) k _ (by simpa using a)).trans ((stay k oM (λf=>?_)).trans (P.frame.block e a x E F));rcases P.nu' k f with t|t
  ·exact x t.symm
  ·omega
 ·exact Bu r _
 ·rw[<-wA];exact B.kept λg h=>by
   have⟨c,b⟩:=B.blk h;exact D dZ b
 ·have⟨c,b⟩:=P.marks.blk h;exact o dZ dZ b
 ·rcases zmA.1 j with j|j
  ·have⟨e,a⟩:=P.recs v j;exact⟨e.Aq (λb=>o dZ dZ b),a⟩
  ·obtain rfl:=xB.1 j;exact⟨Tz.zks z,O⟩
 ·have f:g9=g:=by simpa[Value.ownBlock]using h
  subst f;rcases n with⟨s,_⟩|⟨s,_⟩
  ·exact P.nu' g9 s
  ·exact .inr oM
theorem InQ.mark(P:InQ w wr bw tx bn bm nu nm l NU MV C nu' nm' add q)(p:Bf wr 0 3 lv (List.replicate K (vI (-(C:Int)))))
  (O:∀g,lv.ownBlock=some g->(l.ownBlock=some g\/w.heap.size<=g)/\nm'.ownBlock≠some g) (i:zG wr wa)
  (j:(nm'.ownBlock=some g9/\wa.grownBy w9 (some g9))\/(g9=wa.heap.size/\zG wa w9)) (B:Bf w9 0 3 (sL g9 n9 cap9) (MV++List.replicate q (vI (-(C:Int)))++[vI (-(C:Int))])) :
  InQ w (w9.setCell (aD bw 4) (sL g9 n9 cap9)) bw tx bn bm nu nm l NU MV C nu' (sL g9 n9 cap9) add (q+1)/\Bf (w9.setCell (aD bw 4) (sL g9 n9 cap9)) 0 3 lv (List.replicate K (vI (-(C:Int))))/\∀g,lv.ownBlock=some g->(l.ownBlock=some g\/w.heap.size<=g)/\(sL g9 n9 cap9).ownBlock≠some g:=by
 have T:=P.frame.size;have S:=i.size;have stay:∀k,k<wr.heap.size->nm'.ownBlock≠some k->w9.heap[k]?=wr.heap[k]? :=λk n t=>by
  rcases j with⟨f,a⟩|⟨f,a⟩
  ·exact(a.block k oM (λe=>by cases e;exact t f)).trans (i.block k n sM)
  ·exact(a.block k oM sM).trans (i.block k n sM)
 have R:wr.heap.size<=w9.heap.size:=by rcases j with⟨_,a⟩|⟨_,a⟩<;>(have:=a.size;omega)
 have apart:∀g,g<wr.heap.size->nm'.ownBlock≠some g->(sL g9 n9 cap9).ownBlock≠some g:=λg b t e=>by
  have e:g9=g:=by simpa[Value.ownBlock]using e
  subst e;rcases j with⟨f,_⟩|⟨f,_⟩
  ·exact t f
  ·omega
 have x:zH w9 bw #[tx,bn,bm,nu',nm',vI C] 61:=(stay bw (zgE.1 P.lw).1 (λe=>P.marks.ne dZ P.lw e.symm)).trans P.lw;have D:∀ {k:Nat} {c:Array Value} {h:TypeId},h≠61->zH w9 k c h->(w9.setCell (aD bw 4) (sL g9 n9 cap9)).heap[k]?=w9.heap[k]? :=λ{k c h} M d=>aA w9 (aD bw 4) k _ (by rintro rfl;cases x.symm.trans d;exact M rfl);have o:∀ {k:Nat} {c:Array Value} {h:TypeId},nm'.ownBlock≠some k->h≠61->zH wr k c h->(w9.setCell (aD bw 4) (sL g9 n9 cap9)).heap[k]?=wr.heap[k]? :=λ{k c h} f a d=>by
  have:=stay k (zgE.1 d).1 f;exact(D a (this.trans d)).trans this
 have fr:w9.os=wr.os/\w9.tape=wr.tape/\w9.output=wr.output:=by rcases j with⟨_,a⟩|⟨_,a⟩<;>exact⟨a.os.trans i.os,a.tape.trans i.tape,a.output.trans i.output⟩
 refine⟨⟨⟨fr.1.trans P.frame.os,fr.2.1.trans P.frame.tape,fr.2.2.trans P.frame.output,by simp;omega,λ{k} f a H A I=>?_⟩,Bu x _,P.Jc.kept λg b=>?_,?_,λv N=>?_,P.nu',λg b=>?_⟩,p.kept λg b=>?_,λg b=>⟨(O g b).1,apart g (p.lt g b).2 (O g b).2⟩⟩
 ·refine(aA w9 (aD bw 4) k _ (by simpa using a)).trans ((stay k oM (λe=>?_)).trans (P.frame.block f a H A I));rcases P.nm' k e with z|z
  ·exact A z.symm
  ·omega
 ·have⟨c,d⟩:=P.Jc.blk b;exact o (λe=>P.marks.ne dZ d e.symm) dZ d
 ·rw[List.replicate_succ',<-wA];exact B.kept λg b=>by
   have⟨c,d⟩:=B.blk b;exact D dZ d
 ·have⟨f,a⟩:=P.recs v N;rcases f with⟨c,rfl⟩|⟨g,Q,c,rfl,L,⟨E,r⟩,d⟩
  ·exact⟨.inl ⟨c,rfl⟩,λg b=>by simp[Value.ownBlock]at b⟩
  ·have s:=a g rfl;have e:=o s.2 dZ r;refine⟨.inr ⟨g,Q,c,rfl,L,⟨E,e.trans r⟩,λk n=>(vD e).trans (d k n)⟩,λG J=>?_⟩;have F:g=G:=(by simpa[Value.ownBlock]using J);subst F;exact⟨s.1,apart g (zgE.1 r).1 s.2⟩
 ·have e:g9=g:=by simpa[Value.ownBlock]using b
  subst e;rcases j with⟨y,_⟩|⟨y,_⟩
  ·exact P.nm' g9 y
  ·exact .inr oM
 ·have⟨c,d⟩:=p.blk b;exact o (O g b).2 dZ d
theorem InP.step{w wr wa f:World}{bw:Nat}{tx bn bm nu nm l nu' nm':Value}{NU MV add:List Value}{C K h B:Nat}{p:Option Addr}{r:Nat}(P:InP w wr bw tx bn bm nu nm l NU MV C nu' nm' add)(S:Bf wr 0 3 (.slice p K r) (List.replicate K (vI (-(C:Int)))))
  (O:∀g,(Value.slice p K r).ownBlock=some g->(l.ownBlock=some g\/w.heap.size<=g)/\nm'.ownBlock≠some g) (T:∀v∈add,∀q n c,v=.slice q n c->n<=K) (i:zG wr wa)
  (x:((Value.slice p K r).ownBlock=some h/\wa.grownBy f (some h))\/(h=wa.heap.size/\zG wa f)) (L:Bf f 0 3 (sL h (K+1) B) (List.replicate (K+1) (vI (-(C:Int))))) :
  InP w f bw tx bn bm nu nm l NU MV C nu' nm' add/\∀g,(sL h (K+1) B).ownBlock=some g->(l.ownBlock=some g\/w.heap.size<=g)/\nm'.ownBlock≠some g:=by
 have X:=P.frame.size;have W:=i.size;have H:∀g,nm'.ownBlock=some g->g<wr.heap.size:=λg d=>(P.marks.lt g d).2
 -- a block that lay there and is not the list's stays
 have stay:∀k,k<wr.heap.size->(Value.slice p K r).ownBlock≠some k->f.heap[k]?=wr.heap[k]? :=λk t I=>by
  rcases x with⟨j,b⟩|⟨j,b⟩
  ·exact(b.block k oM (λe=>by cases e;exact I j)).trans (i.block k t sM)
  ·exact(b.block k oM sM).trans (i.block k t sM)
 have V:wr.heap.size<=f.heap.size:=by rcases x with⟨_,b⟩|⟨_,b⟩<;>(have:=b.size;omega)
 have typ:∀ {k:Nat} {c:Array Value} {A:TypeId},A≠3->zH wr k c A->f.heap[k]?=wr.heap[k]? :=λ{k c A} U o=>stay k (zgE.1 o).1 (λe=>S.ne U o e.symm);have fr:f.os=wr.os/\f.tape=wr.tape/\f.output=wr.output:=by rcases x with⟨_,b⟩|⟨_,b⟩<;>exact⟨b.os.trans i.os,b.tape.trans i.tape,b.output.trans i.output⟩
 refine⟨⟨⟨fr.1.trans P.frame.os,fr.2.1.trans P.frame.tape,fr.2.2.trans P.frame.output,oM,λ{k} j b Q R E=>(stay k oM (λe=>?_)).trans (P.frame.block j b Q R E)⟩,?_,P.Jc.kept λg d=>?_,P.marks.kept λg d=>?_,λv M=>?_,P.nu',P.nm'⟩,λg d=>?_⟩
 ·rcases(O k e).1 with D|D
  ·exact E D.symm
  ·omega
 ·exact(typ dZ P.lw).trans P.lw
 ·have⟨c,o⟩:=P.Jc.blk d;exact typ dZ o
 ·exact stay g (H g d) (λe=>(O g e).2 d)
 ·have⟨j,b⟩:=P.recs v M;refine⟨?_,b⟩;rcases j with j|⟨g,n,c,rfl,J,⟨N,F⟩,o⟩
  ·exact .inl j
  ·have d:=(zgE.1 F).1;by_cases G:(Value.slice p K r).ownBlock=some g/\h=g
   ·obtain⟨_,rfl⟩:=G;refine .inr ⟨h,n,c,rfl,J,L.blk rfl,λk t=>?_⟩;have I:=T _ M _ _ _ rfl;have z:=L;unfold Bf at z;rw[wD]at z;rw[z.cellAt k oM,kD,mA oM]
   ·have:f.heap[g]?=wr.heap[g]? :=by
     rcases x with⟨s,y⟩|⟨s,y⟩
     ·exact(y.block g oM (λe=>by cases e;exact G ⟨s,rfl⟩)).trans (i.block g d sM)
     ·exact(y.block g oM sM).trans (i.block g d sM)
    exact .inr ⟨g,n,c,rfl,J,⟨N,this.trans F⟩,λk t=>(vD this).trans (o k t)⟩
 ·have e:h=g:=by simpa[Value.ownBlock]using d
  subst e;rcases x with⟨s,_⟩|⟨s,_⟩
  ·exact O h s
  ·exact⟨.inr oM,λe=>by have:=H h e;omega⟩
theorem zqx{xs:List Value}(hw:LwC w bw tx bn bm nu nm count)(hn:Bf w 0 33 nu NU)(hm:Bf w 0 3 nm MV)(hl:Bf w 0 3 l xs)(hxs:xs.length<=1000)(hN:NU.length<=1000000000000)(hM:MV.length=NU.length)(hc:count<=1000000000000)(hap:∀g,l.ownBlock=some g->nm.ownBlock≠some g):
  Calls prog 126 #[pT bw,l] w λe w'=>e=.returned (.tuple #[])/\∃nu' nm' add,InP w w' bw tx bn bm nu nm l NU MV (count+1) nu' nm' add/\add.length=4:=by
 have⟨c0,c1,c2,c3,c4,c5⟩:=hw.cells;have f5:w.frozen? (aD bw 5)=false:=eB _ _ _ _ _ hw;obtain⟨pl,cl,rfl⟩:=hl.slice;have W1:LwC (w.setCell (aD bw 5) (vI ((count:Int)+1))) bw tx bn bm nu nm (count+1):=Bu hw _;have kp:∀ {g:Nat} {c:Array Value} {u:TypeId},u≠61->zH w g c u->zH (w.setCell (aD bw 5) (vI ((count:Int)+1))) g c u:=λ{g c u} hu hc=>(aA w (aD bw 5) g _ (by rintro rfl;unfold LwC at hw;cases hw.symm.trans hc;exact hu rfl)).trans hc;have L1:Bf (w.setCell (aD bw 5) (vI ((count:Int)+1))) 0 3 (.slice pl xs.length cl) xs:=Ai hl λg c hc=>kp dZ hc;have N1:Bf (w.setCell (aD bw 5) (vI ((count:Int)+1))) 0 33 nu NU:=Ai hn λg c hc=>kp dZ hc;have M1:Bf (w.setCell (aD bw 5) (vI ((count:Int)+1))) 0 3 nm MV:=Ai hm λg c hc=>kp dZ hc;have F1:InF w (w.setCell (aD bw 5) (vI ((count:Int)+1))) bw nu nm (.slice pl xs.length cl):=⟨rfl,rfl,rfl,sM,λ{k} _ h1 _ _ _=>aA w (aD bw 5) k _ (by simpa using h1)⟩;have W1:=bV W1;have L1:=bV L1;have N1:=bV N1;have M1:=bV M1;have F1:=bV F1;have HAP:=bV hap;have hii:(prog.info? 3).map (λi=>(i.zero,i.size,i.bytes))=some (some (vI 0),1,8):=kR;have⟨i0,hi,hz0,hz1,hz2⟩:=info_parts hii;clear kp hl hn hm hw hap;go_in;go_upto_region 1 with fail;generalize w.setCell (aD bw 5) (vI ((count:Int)+1))=w1 at W1 L1 N1 M1 F1 ⊢;obtain⟨C,hC⟩:∃C,count+1=C:=⟨_,rfl⟩;rw[hC]at W1;have HC:=bV hC;have hCl:C<=1000000000001:=oM;clear c0 c1 c2 c3 c4 c5 f5 hC;go_wp21;go_loopg[4] xs.length (λm iv wr=>∃i:Nat,iv=vI i/\i+m=xs.length/\Hid (LwC wr bw tx bn bm nu nm C)/\Hid (Bf wr 0 3 (.slice pl xs.length cl) (List.replicate i (vI (-(C:Int)))++xs.drop i))/\Hid (w1.grownBy wr (Value.slice pl xs.length cl).ownBlock))
 case atStart=>exact⟨0,rfl,oM,W1,by simpa using L1,bV (He (Aa w1))⟩
 case round=>
  obtain⟨i,rfl,him,WR,LR,GR⟩:=hrel;obtain⟨-,-,-,c3,c4,c5⟩:=WR.o.cells;rcases jD (show i<=xs.length by omega)with he|hlt;rotate_left
  ·have hil:(i:Int)<(xs.length:Int):=oM;obtain⟨m,rfl⟩:∃m,gk=m+1:=⟨gk-1,oM⟩;have hd:xs.drop i=xs[i]::xs.drop (i+1):=lD hlt;have hget:(List.replicate i (vI (-(C:Int)))++xs.drop i)[i]?=some xs[i]:=by
    rw[fB sM,wD,Nat.sub_self,hd];rfl
   obtain⟨gl,e,-,y0,yf,-,-⟩:=LR.o.at' hget;subst e;have⟨L2,G2⟩:=LR.o.set (k:=i) rfl (vI (-(C:Int)));have e5:(List.replicate i (vI (-(C:Int)))++xs.drop i).set i (vI (-(C:Int)))=List.replicate (i+1) (vI (-(C:Int)))++xs.drop (i+1):=by
    rw[aE _ _ sM,wD,Nat.sub_self,hd,zsZ,List.replicate_succ',wA];rfl
   rw[e5]at L2;have W2:LwC (wr.setCell (aD gl i) (vI (-(C:Int)))) bw tx bn bm nu nm C:=(G2.block bw (zgE.1 WR.o).1 (LR.o.ne dZ WR.o)).trans WR.o;have L2:=bV L2;have W2:=bV W2;have G2:=bV (A6 GR.o G2);clear hd hget e5 WR LR GR;go_wp21;go_roundg m
   case measure=>omega
   case rel=>exact⟨i+1,by push_cast;rfl,oM,W2,L2,G2⟩
  ·have hil:¬(i:Int)<(xs.length:Int):=oM;obtain⟨w2,rfl⟩:∃w2,w2=wr:=⟨_,rfl⟩;have N2:=N1.o.kept λg hg=>by
    have⟨c,hc⟩:=N1.o.blk hg;exact GR.o.block g (zgE.1 hc).1 (L1.o.ne dZ hc)
   have M2:=M1.o.kept λg hg=>by
    have⟨c,hc⟩:=M1.o.blk hg;exact GR.o.block g (zgE.1 hc).1 (λe=>HAP.o g e.symm hg)
   have F2:InF w w2 bw nu nm (.slice pl xs.length cl):=⟨GR.o.os.trans F1.o.os,GR.o.tape.trans F1.o.tape,GR.o.output.trans F1.o.output,kB F1.o.size GR.o.size,λ{k} h1 h2 h3 h4 h5=>(GR.o.block k (aB h1 F1.o.size) h5).trans (F1.o.block h1 h2 h3 h4 h5)⟩;have P2:InP w w2 bw tx bn bm nu nm (.slice pl xs.length cl) NU MV C nu nm []:=⟨F2,WR.o,by simpa using N2,by simpa using M2,λv hv=>(by cases hv),λg h=>.inl h,λg h=>.inl h⟩;have R2:Bf w2 0 3 (.slice pl xs.length cl) (List.replicate (xs.length+0) (vI (-(C:Int)))):=(by have:=LR.o;rw[he,List.drop_length,List.append_nil]at this;exact this);clear N2 M2 F2 GR LR WR c3 c4 c5 W1 L1 N1 M1 F1;go_wp21;go_loopg[1,5] 65 (λm lv iv wr=>∃(i:Nat) (nu' nm':Value) (add:List Value),iv=vI i/\i+m=65/\Hid (InP w wr bw tx bn bm nu nm (.slice pl xs.length cl) NU MV C nu' nm' add)/\Hid (Bf wr 0 3 lv (List.replicate (xs.length+i) (vI (-(C:Int)))))/\Hid (∀g,lv.ownBlock=some g->((Value.slice pl xs.length cl).ownBlock=some g\/w.heap.size<=g)/\nm'.ownBlock≠some g)/\Hid (∀v∈add,∀q n c,v=.slice q n c->n<=xs.length+i)/\add.length=if i<=3 then i else if i<=64 then 3 else 4)
   case atStart=>exact⟨0,nu,nm,[],rfl,oM,P2,R2,bV (λg hg=>⟨.inl hg,HAP.o g hg⟩),bV (λv hv=>by cases hv),rfl⟩
   case round=>
    obtain⟨j,nu',nm',add,rfl,hjm,PR,RR,OR,SR,hadd⟩:=hrel;rcases jD (show j<=65 by omega)with rfl|hlt
    ·go_wp21;go_end0;exact⟨rfl,nu',nm',add,by rw[HC.o];exact PR.o,by simpa using hadd⟩
    ·have HADD:=bV hadd;clear hadd;obtain⟨pv,cv,rfl⟩:=RR.o.slice;rw[wD]at *;by_cases hrec:j<3\/j=64
     ·have hj3:(j:Int)<=64:=oM;obtain⟨-,-,-,c3,c4,c5⟩:=PR.o.lw.cells;obtain⟨pn,cn,rfl⟩:=PR.o.Jc.slice;obtain⟨kn,hkn⟩:∃kn,(NU++add).length=kn:=⟨_,rfl⟩;rw[hkn]at PR c3;obtain⟨m,rfl⟩:∃m,gk=m+1:=⟨gk-1,oM⟩;have hal:add.length<=4:=(by have:=HADD.o;split at this<;>(try split at this)<;>omega);have hkl:kn<=1000000000004:=(by rw[<-hkn];simp;omega);have hmx:kn+1<=maxLen:=(by unfold maxLen;omega);have hby:(kn+1)*24<=140737488355328:=oM;have ga:=zwA wr (.cells #[.slice pv (xs.length+j) cv] 33) none;have NA:(wr.alloc (.cells #[.slice pv (xs.length+j) cv] 33)).ownsRow 0 33 1 (.slice pn kn cn) kn (NU++add):=(by have:=PR.o.Jc.grown ga;unfold Bf at this;rw[hkn]at this;exact this);have GA:=bV ga;clear ga;have hll:(prog.info? 33).map (λi=>(i.zero,i.size,i.bytes))=some (some zN,1,24):=kR;have⟨l0,hl0,hy0,hy1,hy2⟩:=info_parts hll;rcases hrec with hj|hj
      case' inl=>have hj1:(j:Int)<3:=oM
      case' inr=>
       have hj1:¬(j:Int)<3:=oM;have hj2:((j:Int)==64)=true:=by simp;omega
      all_goals
       have HJ:=bV hj;clear hj
      all_goals
       go_wp2_with (at_builtin;refine Dy _ rfl _ _ 59 rfl 0 33 l0 zN 1 24 underlying59 hl0 hy0 hy1 hy2 rfl dZ (.slice pn kn cn) kn (NU++add) rfl NA (aD wr.heap.size 0) 1 1 [.slice pv (xs.length+j) cv] rfl rfl (J7 _ _ _) (by intro u hu;simp at hu;subst hu;rfl) dZ hmx hby (yD _) ?_;intro g9 cap9 w9 hown9 hway9 hlt9;have O9:=bV hown9;have Y9:=bV hway9;have L9:=PR.o.lw9 GA.o hway9;have z9:=L9.cells.2.2.2.1;have f9:w9.frozen? (aD bw 3)=false:=eB _ _ _ _ _ L9;clear hown9 hway9 L9);have RW9:Bf w9 0 33 (sL g9 (kn+1) cap9) (NU++add++[.slice pv (xs.length+j) cv]):=by
        have:=O9.o;unfold Bf;rw[eA,hkn];exact this
       have⟨Q9,R9⟩:=PR.o.record RR.o OR.o GA.o Y9.o RW9;have Q9:=bV Q9;have R9:=R9;generalize w9.setCell (aD bw 3) (sL g9 (kn+1) cap9)=wb at Q9 R9 ⊢;obtain⟨-,-,-,d3,d4,d5⟩:=Q9.o.lw.cells;clear RW9 O9 Y9 GA NA PR RR c3 c4 c5 z9 f9;clear hkn hmx hby hll hl0 hy0 hy1 hy2 hkl;obtain⟨km,hkm⟩:∃km,(MV++List.replicate add.length (vI (-(C:Int)))).length=km:=⟨_,rfl⟩;obtain⟨pm,cm,rfl⟩:=Q9.o.marks.slice;rw[hkm]at Q9 OR d4;have hkml:km<=1000000000004:=(by rw[<-hkm];simp;omega);have hmx2:km+1<=maxLen:=(by unfold maxLen;omega);have hby2:(km+1)*8<=140737488355328:=oM;have hmo:prog.follows .mixedOrders=true:=kR;have hwr:IntKind.i64.wrap (-(C:Int)) = -(C:Int):=IntWalk.i64_in _ oM;refine Ga (λW=>W.cell? (aD bw 5)=some (vI C)) hmo d5 ?_;intro hSd;have gd:wb.grownBy wb.drew none:=Ad (Aa wb);have e4:wb.drew.cell? (aD bw 4)=some (.slice pm km cm):=d4;generalize wb.drew=wd at hSd gd e4 ⊢;clear d3 d4 d5;have ga2:wb.grownBy (wd.alloc (.cells #[vI (-(C:Int))] 3)) none:=Aj gd _;have MA:(wd.alloc (.cells #[vI (-(C:Int))] 3)).ownsRow 0 3 1 (.slice pm km cm) km (MV++List.replicate add.length (vI (-(C:Int)))):=(by have:=Q9.o.marks.grown ga2;unfold Bf at this;rw[hkm]at this;exact this);have NB:=J7 wd (vI (-(C:Int))) 3;have A5:(wd.alloc (.cells #[vI (-(C:Int))] 3)).cell? (aD bw 5)=some (vI C):=by
        rw[mB _ _ _ _ _ _ (zbG ga2 Q9.o.lw)];rfl
       have A4:(wd.alloc (.cells #[vI (-(C:Int))] 3)).cell? (aD bw 4)=some (.slice pm km cm):=by
        rw[mB _ _ _ _ _ _ (zbG ga2 Q9.o.lw)];rfl
       clear gd;refine tkH 0 (v:=pT bw) rfl (λW hW=>by go_simp) hSd ?_;simp[Act.put];refine tkH 1 (v:=pT bw) rfl (λW hW=>by go_simp) hSd ?_;simp[Act.put];refine tkH 2 (v:=pT bw) rfl (λW hW=>by go_simp) hSd ?_;simp[Act.put];refine tkH 3 (v:=.pointer (some (aD bw 4))) rfl (λW hW=>by go_simp) hSd ?_;simp[Act.put];refine tkH 5 (v:=pT bw) rfl (λW hW=>by go_simp) hSd ?_;simp[Act.put];refine tkH 6 (v:=pT bw) rfl (λW hW=>by go_simp) hSd ?_;simp[Act.put];refine tkH 7 (v:=.pointer (some (aD bw 5))) rfl (λW hW=>by go_simp) hSd ?_;simp[Act.put];refine tkH 8 (v:=vI C) rfl (λW hW=>by go_simp) hSd ?_;simp[Act.put];refine tkH 9 (v:=vI (-(C:Int))) rfl (λW hW=>by go_simp) hSd ?_;simp[Act.put];refine gE (rs:=[4,10]) kR sM ?_;refine yA rfl (λK hK=>?_) (yA rfl (λK hK=>?_) zA)
       case' _=>
        go_simp;refine hK.out _ _ hSd (λhSd=>?_);clear hK K;refine gE (rs:=[10]) kR sM ?_;refine yA rfl (λK hK=>?_) zA;go_simp;refine hK.out _ _ A5 (λhSd=>?_);clear hK K
       rotate_left
       case' _=>
        go_simp;refine hK.out _ _ A5 (λhSd=>?_);clear hK K;refine gE (rs:=[4]) kR sM ?_;refine yA rfl (λK hK=>?_) zA;go_simp;refine hK.out _ _ A5 (λhSd=>?_);clear hK K
       all_goals
        clear hSd e4;refine gE (rs:=[11]) kR sM ?_;refine yA rfl (λK hK=>?_) zA;rw[mA (by rfl)];refine Md _ _ _ 33 rfl 0 3 i0 (vI 0) 1 8 underlying33 hi hz0 hz1 hz2 rfl dZ (.slice pm km cm) km (MV++List.replicate add.length (vI (-(C:Int)))) rfl MA (aD wd.heap.size 0) 1 1 [vI (-(C:Int))] rfl rfl NB (by intro u hu;simp at hu;subst hu;rfl) dZ hmx2 hby2 (yD _) ?_;intro g8 cap8 w8 hown8 hway8 _;have L8:=Q9.o.zwj ga2 hway8;have z8:=L8.cells.2.2.2.2;have f8:w8.frozen? (aD bw 4)=false:=eB _ _ _ _ _ L8;have RW8:Bf w8 0 3 (sL g8 (km+1) cap8) (MV++List.replicate add.length (vI (-(C:Int)))++[vI (-(C:Int))]):=by
         have:=hown8;unfold Bf;rw[eA,hkm];exact this
        have⟨Q10,R10,O10⟩:=Q9.o.mark R9 OR.o ga2 hway8 RW8;have P10:InP w (w8.setCell (aD bw 4) (sL g8 (km+1) cap8)) bw tx bn bm nu nm (.slice pl xs.length cl) NU MV C (sL g9 (kn+1) cap9) (sL g8 (km+1) cap8) (add++[.slice pv (xs.length+j) cv]):=(by unfold InP;rw[eA];exact Q10);have R10:=R10;clear hown8 hway8 L8 RW8 Q10 Q9 R9 OR MA NB A4 A5 ga2;refine hK.out _ _ z8.2 (λhSd=>?_);clear hK K;refine gE (rs:=[12]) kR sM ?_;refine yA rfl (λK hK=>?_) zA;go_simp;refine hK.out _ _ z8.2 (λhSd=>?_);clear hK K;refine gE (rs:=[13]) kR sM ?_;refine yA rfl (λK hK=>?_) zA;go_simp;refine hK.out _ _ z8.2 (λhSd=>?_);clear hK K;refine gE (rs:=[14]) kR sM ?_;refine yA rfl (λK hK=>?_) zA;go_simp;obtain⟨-,-,-,-,-,d5⟩:=P10.lw.cells;refine hK.out _ _ d5 (λ_=>?_);clear hK K hSd z8 f8;refine iE kR ⟨rfl,?_⟩ _;generalize w8.setCell (aD bw 4) (sL g8 (km+1) cap8)=wc at P10 R10 d5 ⊢;have ga:=zwA wc (.cells #[vI (-(C:Int))] 3) none;have GA:=bV ga;have hmx:xs.length+j+1<=maxLen:=(by unfold maxLen;omega);have OA:(wc.alloc (.cells #[vI (-(C:Int))] 3)).ownsRow 0 3 1 (.slice pv (xs.length+j) cv) (xs.length+j) (List.replicate (xs.length+j) (vI (-(C:Int)))):=(by have:=R10.grown ga;unfold Bf at this;rw[wD]at this;exact this);clear ga;go_wp2_with (at_builtin;refine Dy _ rfl _ _ 33 rfl 0 3 i0 (vI 0) 1 8 underlying33 hi hz0 hz1 hz2 rfl dZ (.slice pv (xs.length+j) cv) (xs.length+j) (List.replicate (xs.length+j) (vI (-(C:Int)))) rfl OA (aD wc.heap.size 0) 1 1 [vI (-(C:Int))] rfl rfl (J7 _ _ _) (by intro u hu;simp at hu;subst hu;rfl) dZ hmx oM (yD _) ?_;intro g5 cap5 w5 hown5 hway5 hlt5;have O5:=bV hown5;have Y5:=bV hway5;clear hown5 hway5);have RW:Bf w5 0 3 (sL g5 (xs.length+j+1) cap5) (List.replicate (xs.length+j+1) (vI (-(C:Int)))):=by
         have:=O5;unfold Bf;rw[wD,List.replicate_succ'];exact this
        have S10:∀v∈add++[.slice pv (xs.length+j) cv],∀q n c,v=.slice q n c->n<=xs.length+j:=λv hv q n c e=>by
         rcases zmA.1 hv with hv|hv
         ·exact SR.o v hv q n c e
         ·rw[xB.1 hv]at e;cases e;exact znL _
        have⟨P6,O6⟩:=P10.step R10 O10 S10 GA.o Y5 RW;clear O5 Y5 GA OA P10 R10 d5;go_wp21;go_roundg m
        case measure=>omega
        case rel=>exact⟨j+1,_,_,_,by push_cast;rfl,oM,P6,RW,O6,bV (λv hv q n c e=>by have:=S10 v hv q n c e;omega),by have:=HJ.o;have:=HADD.o;rw[eA,wB];split at this<;>split<;>(try split at this)<;>(try split)<;>omega⟩
     ·have hj1:¬(j:Int)<3:=oM;have hj2:((j:Int)==64)=false:=(by simp;omega);have hj3:(j:Int)<=64:=oM;obtain⟨-,-,-,c3,c4,c5⟩:=PR.o.lw.cells;have ga:=zwA wr (.cells #[vI (-(C:Int))] 3) none;have RA:=RR.o.grown ga;have GA:=bV ga;have hmx:xs.length+j+1<=maxLen:=(by unfold maxLen;omega);have OA:(wr.alloc (.cells #[vI (-(C:Int))] 3)).ownsRow 0 3 1 (.slice pv (xs.length+j) cv) (xs.length+j) (List.replicate (xs.length+j) (vI (-(C:Int)))):=(by have:=RA;unfold Bf at this;rw[wD]at this;exact this);clear ga;go_wp2_with (at_builtin;refine Dy _ rfl _ _ 33 rfl 0 3 i0 (vI 0) 1 8 underlying33 hi hz0 hz1 hz2 rfl dZ (.slice pv (xs.length+j) cv) (xs.length+j) (List.replicate (xs.length+j) (vI (-(C:Int)))) rfl OA (aD wr.heap.size 0) 1 1 [vI (-(C:Int))] rfl rfl (J7 _ _ _) (by intro u hu;simp at hu;subst hu;rfl) dZ hmx oM (yD _) ?_;intro g5 cap5 w5 hown5 hway5 hlt5;have O5:=bV hown5;have Y5:=bV hway5;clear hown5 hway5);obtain⟨m,rfl⟩:∃m,gk=m+1:=⟨gk-1,oM⟩;have RW:Bf w5 0 3 (sL g5 (xs.length+j+1) cap5) (List.replicate (xs.length+j+1) (vI (-(C:Int)))):=by
       have:=O5;unfold Bf;rw[wD,List.replicate_succ'];exact this
      have⟨P6,O6⟩:=PR.o.step RR.o OR.o SR.o GA.o Y5 RW;clear O5 Y5 GA RA OA PR RR OR c3 c4 c5;go_wp21;go_roundg m
      case measure=>omega
      case rel=>exact⟨j+1,nu',nm',add,by push_cast;rfl,oM,P6,RW,O6,bV (λv hv q n c e=>by have:=SR.o v hv q n c e;omega),by have:=HADD.o;split at this<;>split<;>(try split at this)<;>(try split)<;>omega⟩
end
end
section
open Go.RowKit
section
variable{w w' wr wa w9:World}{v m tx bn bm nu nm l nu' nm' mk:Value}{g count j g9 n9 cap9 B K:Nat}{NU MV add BN BM xs:List Value}{Z:Nat->Prop}{e:TypeId}
def Zl(w:World)(v:Value)(m:Value):Prop:=(∃c,v=.slice none 0 c)\/∃g n c,v=.slice (some ⟨g,0,none⟩) n c/\n<=maxLen/\(∃a,w.heap[g]?=some (.cells a 48 (0,0)))/\∀k,k<n->w.cell? ⟨g,k*3,none⟩=some m/\w.cell? ⟨g,k*3+1,none⟩=some (.int .i64 0)/\w.cell? ⟨g,k*3+2,none⟩=some (.slice none 0 0)
theorem Zl.Aq(h:Zl w v m)(o:∀ {g:Nat} {c:Array Value},v.ownBlock=some g->zH w g c 48->w'.heap[g]?=w.heap[g]?):Zl w' v m:=by
 rcases h with h|⟨g,r,c,rfl,q,⟨b,a⟩,n⟩
 ·exact .inl h
 ·have e:w'.heap[g]?=w.heap[g]? :=o rfl a;refine .inr ⟨g,r,c,rfl,q,⟨b,e.trans a⟩,λk p=>?_⟩;obtain⟨d,f,i⟩:=n k p;exact⟨(vD e).trans d,(vD e).trans f,(vD e).trans i⟩
theorem Tz.zbk{m:Int}(h:Tz w v m)(f:∀ {g:Nat} {c:Array Value},v.ownBlock=some g->zH w g c 3->w'.heap[g]?=w.heap[g]?):Tz w' v m:=by
 rcases h with h|⟨g,o,c,rfl,n,⟨b,a⟩,d⟩
 ·exact .inl h
 ·have e:w'.heap[g]?=w.heap[g]? :=f rfl a;exact .inr ⟨g,o,c,rfl,n,⟨b,e.trans a⟩,λk i=>(vD e).trans (d k i)⟩
theorem Tz.lt{m:Int}(h:Tz w v m)(a:v.ownBlock=some g):g<w.heap.size:=by
 rcases h with⟨c,rfl⟩|⟨b,n,c,rfl,_,⟨f,d⟩,_⟩
 ·simp[Value.ownBlock]at a
 ·have e:b=g:=by simpa[Value.ownBlock]using a
  subst e;exact(zgE.1 d).1
theorem Zl.lt(h:Zl w v m)(a:v.ownBlock=some g):g<w.heap.size:=by
 rcases h with⟨c,rfl⟩|⟨b,n,c,rfl,_,⟨f,d⟩,_⟩
 ·simp[Value.ownBlock]at a
 ·have e:b=g:=by simpa[Value.ownBlock]using a
  subst e;exact(zgE.1 d).1
structure LS(w:World)(Z:Nat->Prop)(bw:Nat)(tx bn bm nu nm:Value)(count:Nat)(BN BM NU MV:List Value):Prop where
 lw:LwC w bw tx bn bm nu nm count
 bns:Bf w 0 45 bn BN
 bms:Bf w 0 9 bm BM
 Jc:Bf w 0 33 nu NU
 marks:Bf w 0 3 nm MV
 zbj:∀(i:Nat) (v m:Value),NU[i]?=some v->MV[i]?=some m->∃k,m=.int .i64 k/\Tz w v k
 zbo:∀(i:Nat) (v m:Value),BN[i]?=some v->BM[i]?=some m->(∃s,m=.string s)/\Zl w v m
 apart:∀v∈NU,∀g,v.ownBlock=some g->nm.ownBlock≠some g
 Yi:MV.length=NU.length
 Yg:BM.length<=BN.length
 Rb:∀g,Z g->g<w.heap.size/\nm.ownBlock≠some g/\(∀v∈NU,v.ownBlock≠some g)/\(∀v∈BN,v.ownBlock≠some g)
structure LF(w w':World)(bw:Nat)(R R':List Value):Prop where
 os:w'.os=w.os
 tape:w'.tape=w.tape
 output:w'.output=w.output
 size:w.heap.size<=w'.heap.size
 block:∀ {k:Nat},k<w.heap.size->k≠bw->(∀v∈R,v.ownBlock≠some k)->w'.heap[k]?=w.heap[k]?
 next:∀v∈R',∀g,v.ownBlock=some g->(∃u∈R,u.ownBlock=some g)\/w.heap.size<=g
theorem LF.trans{a b c:World}{bw:Nat}{R q f n:List Value}(h:LF a b bw R q)(k:LF b c bw f n)(o:∀u∈f,∀g,u.ownBlock=some g->(∃x∈R,x.ownBlock=some g)\/a.heap.size<=g):LF a c bw R n where
 os:=k.os.trans h.os
 tape:=k.tape.trans h.tape
 output:=k.output.trans h.output
 size:=kB h.size k.size
 block {i} hi hb hn:=(k.block (aB hi h.size) hb λv d e=>by
  rcases o v d i e with⟨x,t,ex⟩|p
  ·exact hn x t ex
  ·omega).trans (h.block hi hb hn)
 next v d g hg:=by
  rcases k.next v d g hg with⟨u,s,r⟩|p
  ·exact o u s g r
  ·exact .inr (kB h.size p)
theorem LF.ztl{bw:Nat}{c q:Nat}(P:InQ w w' bw tx bn bm nu nm l NU MV c nu' nm' add q):LF w w' bw [bn,bm,nu,nm,l] [bn,bm,nu',nm'] where
 os:=P.frame.os
 tape:=P.frame.tape
 output:=P.frame.output
 size:=P.frame.size
 block {k} h1 h2 h3:=P.frame.block h1 h2 (λe=>h3 nu sM e.symm) (λe=>h3 nm sM e.symm) (λe=>h3 l sM e.symm)
 next v hv g hg:=by
  simp only[zmC,tD,or_false]at hv;rcases hv with rfl|rfl|rfl|rfl
  ·exact .inl ⟨_,sM,hg⟩
  ·exact .inl ⟨_,sM,hg⟩
  ·exact(P.nu' g hg).imp_left λe=>⟨nu,sM,e⟩
  ·exact(P.nm' g hg).imp_left λe=>⟨nm,sM,e⟩
def zlr:List TypeId:=[61,45,9,33,3,48]
theorem LS.ints{bw:Nat}(h:LS w Z bw tx bn bm nu nm count BN BM NU MV)(y:Bf w 0 3 l xs)(A:∀g,l.ownBlock=some g->Z g)
  (P:InP w w' bw tx bn bm nu nm l NU MV (count+1) nu' nm' add):LS w' (λg=>Z g/\l.ownBlock≠some g) bw tx bn bm nu' nm' (count+1) BN BM (NU++add) (MV++List.replicate add.length (vI (-((count+1:Nat):Int)))):=by
 have t:∀ {k:Nat} {c:Array Value} {f:TypeId},f≠61->zH w k c f->k≠bw:=λ{k c f} s b=>by
  rintro rfl
  have:=h.lw;unfold LwC at this;cases this.symm.trans b;exact s rfl
 have stay:∀ {k:Nat} {c:Array Value} {f:TypeId},f≠33->f≠3->f≠61->zH w k c f->w'.heap[k]?=w.heap[k]? :=λ{k c f} r q s b=>
  P.frame.block (zgE.1 b).1 (t s b) (h.Jc.ne r b) (h.marks.ne q b) (y.ne q b)
 have D:∀v∈NU,∃k,Tz w v k:=λv a=>by
  obtain⟨i,n,rfl⟩:=eE a;have z:i<MV.length:=by rw[h.Yi];exact n
  obtain⟨k,_,p⟩:=h.zbj i NU[i] MV[i] (fA n) (fA z);exact⟨k,p⟩
 have H:=P.frame.size;refine⟨P.lw,h.bns.kept λg d=>?_,h.bms.kept λg d=>?_,P.Jc,P.marks,λi v m a o=>?_,λi v m a o=>?_,λv a g d=>?_,by simp[h.Yi],h.Yg,λg d=>?_⟩
 ·obtain⟨c,b⟩:=h.bns.blk d;exact stay dZ dZ dZ b
 ·obtain⟨c,b⟩:=h.bms.blk d;exact stay dZ dZ dZ b
 ·rcases yB i NU.length with n|n
  ·rw[iA n]at a;rw[iA (by rw[h.Yi];exact n)]at o;obtain⟨k,p,C⟩:=h.zbj i v m a o;have x:=dD a;refine⟨k,p,C.zbk λ{g c} d b=>P.frame.block (zgE.1 b).1 (t dZ b) (h.Jc.ne dZ b) (λe=>h.apart v x g d e.symm) (λe=>(h.Rb g (A g e.symm)).2.2.1 v x d)⟩
  ·rw[fB n]at a;rw[fB (by rw[h.Yi];exact n)]at o
   have:=dD o;rw[List.mem_replicate]at this;exact⟨_,this.2,(P.recs v (dD a)).1⟩
 ·obtain⟨r,q⟩:=h.zbo i v m a o;exact⟨r,q.Aq λ{g c} _ b=>stay dZ dZ dZ b⟩
 ·rcases zmA.1 a with a|a
  ·intro e;rcases P.nm' g e with e|e
   ·exact h.apart v a g d e
   ·obtain⟨k,p⟩:=D v a
    have:=p.lt d;omega
  ·exact((P.recs v a).2 g d).2
 ·obtain⟨I,E,F,G⟩:=h.Rb g d.1;refine⟨oM,λe=>?_,λv a e=>?_,G⟩
  ·rcases P.nm' g e with e|e
   ·exact E e
   ·omega
  ·rcases zmA.1 a with a|a
   ·exact F v a e
   ·rcases((P.recs v a).2 g e).1 with e|e
    ·exact d.2 e
    ·omega
theorem LS.bw{bw:Nat}(h:LS w Z bw tx bn bm nu nm count BN BM NU MV){k:Nat}{c:Array Value}{u:TypeId}{m:Nat×Nat}(b:u≠61)(a:w.heap[k]?=some (.cells c u m)):k≠bw:=by
 rintro rfl
 have:=h.lw;unfold LwC at this;rw[this]at a;cases a;exact b rfl
theorem LS.zfd{bw:Nat}(h:LS w Z bw tx bn bm nu nm count BN BM NU MV){o:Option Nat}(b:w.grownBy w' o)(r:∀g,o=some g->Z g/\∃c,zH w g c 48):LS w' Z bw tx bn bm nu nm count BN BM NU MV:=by
 have stay:∀ {k:Nat} {c:Array Value} {q:TypeId},q≠48->zH w k c q->w'.heap[k]?=w.heap[k]? :=λ{k c q} x a=>b.block k (zgE.1 a).1 λe=>by
  obtain⟨_,C,s⟩:=r k e.symm;cases a.symm.trans s;exact x rfl
 have D:=b.size;refine⟨(stay dZ h.lw).trans h.lw,h.bns.kept λg b=>?_,h.bms.kept λg b=>?_,h.Jc.kept λg b=>?_,h.marks.kept λg b=>?_,λp v m d n=>?_,λp v m d n=>?_,h.apart,h.Yi,h.Yg,λg b=>?_⟩
 ·obtain⟨c,a⟩:=h.bns.blk b;exact stay dZ a
 ·obtain⟨c,a⟩:=h.bms.blk b;exact stay dZ a
 ·obtain⟨c,a⟩:=h.Jc.blk b;exact stay dZ a
 ·obtain⟨c,a⟩:=h.marks.blk b;exact stay dZ a
 ·obtain⟨k,f,i⟩:=h.zbj p v m d n;exact⟨k,f,i.zbk λ{g c} _ a=>stay dZ a⟩
 ·obtain⟨f,i⟩:=h.zbo p v m d n;exact⟨f,i.Aq λ{g c} t a=>b.block g (zgE.1 a).1 λe=>(h.Rb g (r g e.symm).1).2.2.2 v (dD d) t⟩
 ·obtain⟨E,y,z,A⟩:=h.Rb g b;exact⟨oM,y,z,A⟩
theorem Jo{bw:Nat}{v9:Value}{r:Array Value}(p:∀ {g:Nat} {c:Array Value} {u:TypeId},u≠e->zH wr g c u->some g≠v.ownBlock)(t:e≠61)(i:zH wr bw r 61)(d:zG wr wa)
  (h:(v.ownBlock=some g9/\wa.grownBy w9 (some g9))\/(g9=wa.heap.size/\zG wa w9)) :
  (∀ {k:Nat} {c:Array Value} {u:TypeId},u≠e->u≠61->zH wr k c u->(w9.setCell (aD bw j) v9).heap[k]?=wr.heap[k]?)/\w9.heap[bw]?=wr.heap[bw]? /\ (∀ {k:Nat},k<wr.heap.size->k≠bw->v.ownBlock≠some k->(w9.setCell (aD bw j) v9).heap[k]?=wr.heap[k]?) /\
  (∀ {k:Nat} {c:Array Value} {u:TypeId},u≠61->zH w9 k c u->(w9.setCell (aD bw j) v9).heap[k]?=w9.heap[k]?)/\(w9.os=wr.os/\w9.tape=wr.tape/\w9.output=wr.output)/\wr.heap.size<=w9.heap.size/\(v.ownBlock=some g9\/wr.heap.size<=g9):=by
 have A:=d.size;have stay:∀k,k<wr.heap.size->v.ownBlock≠some k->w9.heap[k]?=wr.heap[k]? :=λk o x=>by
  rcases h with⟨b,a⟩|⟨b,a⟩
  ·exact(a.block k oM (λe=>by cases e;exact x b)).trans (d.block k o sM)
  ·exact(a.block k oM sM).trans (d.block k o sM)
 have y:wr.heap.size<=w9.heap.size:=by rcases h with⟨_,a⟩|⟨_,a⟩<;>(have:=a.size;omega)
 have n:w9.heap[bw]?=wr.heap[bw]? :=stay bw (zgE.1 i).1 (λe=>p (Ne.symm t) i e.symm);have q:∀ {k:Nat} {c:Array Value} {u:TypeId},u≠61->zH w9 k c u->(w9.setCell (aD bw j) v9).heap[k]?=w9.heap[k]? :=λ{k c u} z f=>aA w9 (aD bw j) k _ (by rintro rfl;cases(n.trans i).symm.trans f;exact z rfl);refine⟨λ{k c u} b a f=>?_,n,λ{k} b a s=>(aA w9 (aD bw j) k _ (by simpa using a)).trans (stay k b s),q,?_,y,?_⟩
 ·have:=stay k (zgE.1 f).1 (λe=>p b f e.symm);exact(q a (this.trans f)).trans this
 ·rcases h with⟨_,a⟩|⟨_,a⟩<;>exact⟨a.os.trans d.os,a.tape.trans d.tape,a.output.trans d.output⟩
 ·rcases h with⟨b,_⟩|⟨b,_⟩
  ·exact .inl b
  ·exact .inr oM
theorem LS.zwa{bw:Nat}{lv:Value}(h:LS wr Z bw tx bn bm nu nm count BN BM NU MV)(z:∀g,lv.ownBlock=some g->¬Z g)(s:zG wr wa)
  (D:(bn.ownBlock=some g9/\wa.grownBy w9 (some g9))\/(g9=wa.heap.size/\zG wa w9)) (q:Bf w9 0 45 (sL g9 n9 cap9) (BN++[lv])) :
  LS (w9.setCell (aD bw 1) (sL g9 n9 cap9)) Z bw tx (sL g9 n9 cap9) bm nu nm count (BN++[lv]) BM NU MV/\LF wr (w9.setCell (aD bw 1) (sL g9 n9 cap9)) bw [bn,bm,nu,nm] [sL g9 n9 cap9,bm,nu,nm]:=by
 obtain⟨f,r,E,F,fr,A,x⟩:=Jo (j:=1) (v9:=sL g9 n9 cap9) (λC a=>h.bns.ne C a) dZ h.lw s D;refine⟨⟨Bu (r.trans h.lw) _,q.kept λg b=>?_,h.bms.kept λg b=>?_,h.Jc.kept λg b=>?_,h.marks.kept λg b=>?_,λp v m d o=>?_,λp v m d o=>?_,h.apart,h.Yi,by have:=h.Yg;simp;omega,λg b=>?_⟩,⟨fr.1,fr.2.1,fr.2.2,by simpa using A,λ{k} i n t=>E i n (t bn sM),λv d g b=>?_⟩⟩
 ·obtain⟨c,a⟩:=q.blk b;exact F dZ a
 ·obtain⟨c,a⟩:=h.bms.blk b;exact f dZ dZ a
 ·obtain⟨c,a⟩:=h.Jc.blk b;exact f dZ dZ a
 ·obtain⟨c,a⟩:=h.marks.blk b;exact f dZ dZ a
 ·obtain⟨k,i,n⟩:=h.zbj p v m d o;exact⟨k,i,n.zbk λ{g c} _ a=>f dZ dZ a⟩
 ·have y:p<BN.length:=aB (zlE.1 o).1 h.Yg;rw[iA y]at d;obtain⟨i,n⟩:=h.zbo p v m d o;exact⟨i,n.Aq λ{g c} _ a=>f dZ dZ a⟩
 ·obtain⟨J,G,H,I⟩:=h.Rb g b;refine⟨by simp;omega,G,H,λv d e=>?_⟩;rcases zmA.1 d with d|d
  ·exact I v d e
  ·rw[xB.1 d]at e;exact z g e b
 ·simp only[zmC,tD,or_false]at d;rcases d with rfl|rfl|rfl|rfl
  ·have e:g9=g:=(by simpa[Value.ownBlock]using b);subst e;exact x.imp_left λe=>⟨bn,sM,e⟩
  all_goals exact .inl ⟨_,sM,b⟩
theorem LS.zv9{bw:Nat}(h:LS wr Z bw tx bn bm nu nm count BN BM NU MV)(C:∃s,mk=.string s)(N:BM.length+1<=BN.length)(D:∀v,BN[BM.length]?=some v->Zl wr v mk)(x:zG wr wa)
  (G:(bm.ownBlock=some g9/\wa.grownBy w9 (some g9))\/(g9=wa.heap.size/\zG wa w9)) (r:Bf w9 0 9 (sL g9 n9 cap9) (BM++[mk])) :
  LS (w9.setCell (aD bw 2) (sL g9 n9 cap9)) Z bw tx bn (sL g9 n9 cap9) nu nm count BN (BM++[mk]) NU MV/\LF wr (w9.setCell (aD bw 2) (sL g9 n9 cap9)) bw [bn,bm,nu,nm] [bn,sL g9 n9 cap9,nu,nm]:=by
 obtain⟨i,t,H,I,fr,E,z⟩:=Jo (j:=2) (v9:=sL g9 n9 cap9) (λF a=>h.bms.ne F a) dZ h.lw x G;refine⟨⟨Bu (t.trans h.lw) _,h.bns.kept λg b=>?_,r.kept λg b=>?_,h.Jc.kept λg b=>?_,h.marks.kept λg b=>?_,λp v m f d=>?_,λp v m f d=>?_,h.apart,h.Yi,by simp;omega,λg b=>?_⟩,⟨fr.1,fr.2.1,fr.2.2,by simpa using E,λ{k} n o y=>H n o (y bm sM),λv f g b=>?_⟩⟩
 ·obtain⟨c,a⟩:=h.bns.blk b;exact i dZ dZ a
 ·obtain⟨c,a⟩:=r.blk b;exact I dZ a
 ·obtain⟨c,a⟩:=h.Jc.blk b;exact i dZ dZ a
 ·obtain⟨c,a⟩:=h.marks.blk b;exact i dZ dZ a
 ·obtain⟨k,n,o⟩:=h.zbj p v m f d;exact⟨k,n,o.zbk λ{g c} _ a=>i dZ dZ a⟩
 ·rcases yB p BM.length with q|q
  ·rw[iA q]at d;obtain⟨n,o⟩:=h.zbo p v m f d;exact⟨n,o.Aq λ{g c} _ a=>i dZ dZ a⟩
  ·rw[fB q]at d;have A:p=BM.length:=by
    have:=(zlE.1 d).1;simp at this;omega
   subst A;simp at d;subst d;exact⟨C,(D v f).Aq λ{g c} _ a=>i dZ dZ a⟩
 ·obtain⟨O,J,L,M⟩:=h.Rb g b;exact⟨by simp;omega,J,L,M⟩
 ·simp only[zmC,tD,or_false]at f;rcases f with rfl|rfl|rfl|rfl
  ·exact .inl ⟨_,sM,b⟩
  ·have e:g9=g:=(by simpa[Value.ownBlock]using b);subst e;exact z.imp_left λe=>⟨bm,sM,e⟩
  all_goals exact .inl ⟨_,sM,b⟩
def Le(K:Nat)(mk:Value):List Value:=(List.replicate K [mk,.int .i64 0,.slice none 0 0]).flatten
theorem zqy(K:Nat)(mk:Value):(Le K mk).length=K*3:=by
 induction K with
 |zero=>rfl
 |succ n ih=>rw[Le,List.replicate_succ,List.flatten_cons,eA,show(List.replicate n [mk,vI 0,zN]).flatten.length=n*3 from ih];simp;omega
theorem zdf(K:Nat)(mk:Value):Le (K+1) mk=Le K mk++[mk,vI 0,zN]:=by simp[Le,List.replicate_succ']
theorem ze4:∀(K:Nat) (mk:Value) (k:Nat),k<K->(Le K mk)[k*3]?=some mk/\(Le K mk)[k*3+1]?=some (vI 0)/\(Le K mk)[k*3+2]?=some zN
 |0,_,k,h=>oM
 |K+1,mk,k,h=>by
  have e:Le (K+1) mk=mk :: vI 0 :: zN::Le K mk:=by simp[Le,List.replicate_succ]
  rw[e];cases k with
  |zero=>exact⟨rfl,rfl,rfl⟩
  |succ k=>
   obtain⟨a,b,c⟩:=ze4 K mk k oM;refine⟨?_,?_,?_⟩
   ·rw[show(k+1)*3=k*3+3 from oM];exact a
   ·rw[show(k+1)*3+1=k*3+1+3 from oM];exact b
   ·rw[show(k+1)*3+2=k*3+2+3 from oM];exact c
theorem zbb{size n cap:Nat}(h:w.ownsRow B e size (sL g n cap) n xs){u:Value}(a:xs[j]?=some u):w.cell? (aD g j)=some u:=by
 rcases h.2 with⟨e,_⟩|⟨k,f,i,e,_,d,_,_,_,c⟩
 ·cases e
 ·cases e;have b:=(zlE.1 a).1;rw[h.1]at b;rw[mB _ _ _ _ _ _ d];rw[<-c,List.getElem?_take_of_lt b]at a;simpa using a
theorem Zl.zks(h:w.ownsRow B 48 3 v K (Le K mk)):Zl w v mk:=by
 rcases h.2 with⟨a,_⟩|⟨g,d,s,a,_,o,p,q,_⟩
 ·exact .inl ⟨0,a⟩
 ·refine .inr ⟨g,K,d,a,kB p q,⟨_,o⟩,λk r=>?_⟩;rw[a]at h;have b:∀j c,(Le K mk)[j]?=some c->w.cell? (aD g j)=some c:=λj c=>zbb h;obtain⟨f,i,n⟩:=ze4 K mk k r;refine⟨?_,?_,?_⟩
  ·exact b _ _ f
  ·exact b _ _ i
  ·exact b _ _ n
theorem LS.zwb{r:World}{bw:Nat}{f G:Nat}{p:Option Addr}{t:Nat}(h:LS wr Z bw tx bn bm nu nm count BN BM NU MV)(U:wr.ownsRow 0 48 3 (.slice p K t) K (Le K mk))
  (O:∀(i:Nat) (v m:Value),BN[i]?=some v->BM[i]?=some m->∀g,v.ownBlock=some g->(Value.slice p K t).ownBlock=some g->m=mk/\∀q n c,v=.slice q n c->n<=K) (A:zG wr wa)
  (F:((Value.slice p K t).ownBlock=some f/\wa.grownBy r (some f))\/(f=wa.heap.size/\zG wa r)) (N:r.ownsRow 0 48 3 (sL f (K+1) G) (K+1) (Le (K+1) mk)) :
  LS r Z bw tx bn bm nu nm count BN BM NU MV/\LF wr r bw [bn,bm,nu,nm,.slice p K t] [bn,bm,nu,nm,sL f (K+1) G] /\
  ∀(i:Nat) (v m:Value),BN[i]?=some v->BM[i]?=some m->∀g,v.ownBlock=some g->(sL f (K+1) G).ownBlock=some g->m=mk/\∀q n c,v=.slice q n c->n<=K+1:=by
 have a3:=A.size;have a0:wr.heap.size<=r.heap.size:=by rcases F with⟨_,b⟩|⟨_,b⟩<;>(have:=b.size;omega)
 have stay:∀k,k<wr.heap.size->(Value.slice p K t).ownBlock≠some k->r.heap[k]?=wr.heap[k]? :=λk I M=>by
  rcases F with⟨d,b⟩|⟨d,b⟩
  ·exact(b.block k oM (λe=>by cases e;exact M d)).trans (A.block k I sM)
  ·exact(b.block k oM sM).trans (A.block k I sM)
 have blk:∀ {g:Nat},(Value.slice p K t).ownBlock=some g->∃c,zH wr g c 48:=λ{g} a=>by
  rcases U.2 with⟨d,_⟩|⟨H,P,Q,d,_,b,_⟩
  ·rw[d]at a;simp[Value.ownBlock]at a
  ·rw[d]at a;have e:H=g:=(by simpa[Value.ownBlock]using a);subst e;exact⟨_,b⟩
 have typ:∀ {k:Nat} {c:Array Value} {C:TypeId},C≠48->zH wr k c C->r.heap[k]?=wr.heap[k]? :=λ{k c C} hu o=>stay k (zgE.1 o).1 (λe=>by
  obtain⟨a1,S⟩:=blk e;cases o.symm.trans S;exact hu rfl)
 have fr:r.os=wr.os/\r.tape=wr.tape/\r.output=wr.output:=by rcases F with⟨_,b⟩|⟨_,b⟩<;>exact⟨b.os.trans A.os,b.tape.trans A.tape,b.output.trans A.output⟩
 have L:(Value.slice p K t).ownBlock=some f\/wr.heap.size<=f:=by
  rcases F with⟨d,_⟩|⟨d,_⟩
  ·exact .inl d
  ·exact .inr oM
 have X:∀(i:Nat) (v m:Value),BN[i]?=some v->BM[i]?=some m->∀g,v.ownBlock=some g->g<wr.heap.size:=λi v m s y g a=>(h.zbo i v m s y).2.lt a;refine⟨⟨(typ dZ h.lw).trans h.lw,h.bns.kept λg a=>?_,h.bms.kept λg a=>?_,h.Jc.kept λg a=>?_,h.marks.kept λg a=>?_,λi v m s y=>?_,λi v m s y=>?_,h.apart,h.Yi,h.Yg,λg a=>?_⟩,⟨fr.1,fr.2.1,fr.2.2,a0,λ{k} d b T=>stay k d (T _ sM),λv s g a=>?_⟩,λi v m s y g a D=>?_⟩
 ·obtain⟨c,o⟩:=h.bns.blk a;exact typ dZ o
 ·obtain⟨c,o⟩:=h.bms.blk a;exact typ dZ o
 ·obtain⟨c,o⟩:=h.Jc.blk a;exact typ dZ o
 ·obtain⟨c,o⟩:=h.marks.blk a;exact typ dZ o
 ·obtain⟨k,d,b⟩:=h.zbj i v m s y;exact⟨k,d,b.zbk λ{g c} _ o=>typ dZ o⟩
 ·obtain⟨d,b⟩:=h.zbo i v m s y;refine⟨d,?_⟩;by_cases D:v.ownBlock=some f/\(Value.slice p K t).ownBlock=some f
  ·obtain⟨z,x⟩:=O i v m s y f D.1 D.2;subst z;rcases b with b|⟨g,n,c,rfl,Y,⟨J,a2⟩,o⟩
   ·exact .inl b
   ·have e:g=f:=(by simpa[Value.ownBlock]using D.1);subst e;have M:=x _ _ _ rfl;have E:∀j C,(Le (K+1) m)[j]?=some C->r.cell? (aD g j)=some C:=λj C=>zbb N;have V:∃J,r.heap[g]?=some (.cells J 48 (0,0)):=by
     rcases N.2 with⟨d,_⟩|⟨H,P,Q,d,_,b,_⟩
     ·cases d
     ·have e:g=H:=(by simpa[Value.ownBlock]using congrArg Value.ownBlock d);subst e;exact⟨_,b⟩
    refine .inr ⟨g,n,c,rfl,Y,V,λk I=>?_⟩;obtain⟨z,x,R⟩:=ze4 (K+1) m k oM;refine⟨?_,?_,?_⟩
    ·exact E _ _ z
    ·exact E _ _ x
    ·exact E _ _ R
  ·refine b.Aq λ{g c} W o=>?_;have a:=(zgE.1 o).1;rcases F with⟨z,x⟩|⟨z,x⟩
   ·exact(x.block g oM (λe=>by cases e;exact D ⟨W,z⟩)).trans (A.block g a sM)
   ·exact(x.block g oM sM).trans (A.block g a sM)
 ·obtain⟨z1,z2,z3,z4⟩:=h.Rb g a;exact⟨oM,z2,z3,z4⟩
 ·simp only[zmC,tD,or_false]at s;rcases s with rfl|rfl|rfl|rfl|rfl
  ·exact .inl ⟨_,sM,a⟩
  ·exact .inl ⟨_,sM,a⟩
  ·exact .inl ⟨_,sM,a⟩
  ·exact .inl ⟨_,sM,a⟩
  ·have e:f=g:=(by simpa[Value.ownBlock]using a);subst e;exact L.imp_left λe=>⟨.slice p K t,sM,e⟩
 ·have e:f=g:=by simpa[Value.ownBlock]using D
  subst e;rcases L with e|e
  ·obtain⟨z,x⟩:=O i v m s y f a e;exact⟨z,λq n c E=>Nat.le_succ_of_le (x q n c E)⟩
  ·have:=X i v m s y f a;omega
end
end
section
open Tw Go.Proofs.Tryz
open Go.RowKit
section
variable{w w' a b:World}{Z:Nat->Prop}{bw count B size n k g c:Nat}{tx bn bm nu nm v l:Value}{BN BM NU MV xs R R1:List Value}{e u:TypeId}
theorem LS.sub{Z':Nat->Prop}(h:LS w Z bw tx bn bm nu nm count BN BM NU MV)(f:∀g,Z' g->Z g):LS w Z' bw tx bn bm nu nm count BN BM NU MV:={h with Rb:=λg d=>h.Rb g (f g d)}
theorem ze5(h:w.ownsRow B e size v n xs){cap m:Nat}(hv:v=sL g m cap)(u:Value):(w.setCell (aD g k) u).ownsRow B e size v n (xs.set k u)/\w.grownBy (w.setCell (aD g k) u) (some g):=by
 subst hv;refine⟨?_,rfl,rfl,rfl,sM,λr _ q=>aA w (aD g k) r _ (by rintro rfl;exact q rfl)⟩;rcases h.2 with⟨e,_⟩|⟨x,s,t,e,d,f,i,j,o,p⟩
 ·cases e
 ·cases e;refine⟨by simpa using h.1,.inr ⟨g,cap,_,rfl,d,Bu f _,i,j,by simpa using o,?_⟩⟩;rw[bE,List.take_set,p]
theorem zqz(h:w.ownsRow B e size v n xs){c:Array Value}{m:Nat×Nat}(j:u≠e)(i:w.heap[g]?=some (.cells c u m)):v.ownBlock≠some g:=λe=>by
 rcases h.2 with⟨d,_⟩|⟨q,o,p,d,_,f,_⟩
 ·rw[d]at e;simp[Value.ownBlock]at e
 ·rw[d]at e;simp[Value.ownBlock]at e;rw[e,i]at f;cases f;exact j rfl
theorem Qy(h:w.ownsRow B e size v n xs)(d:v.ownBlock=some g):B<=g/\∃c,zH w g c e:=by
 rcases h.2 with⟨f,_⟩|⟨i,o,p,f,m,j,_⟩
 ·rw[f]at d;simp[Value.ownBlock]at d
 ·rw[f]at d;have e:i=g:=by simpa[Value.ownBlock]using d
  subst e;exact⟨m,_,j⟩
theorem zq0(h:w.ownsRow B e size v n xs)(q:∀g,v.ownBlock=some g->w'.heap[g]?=w.heap[g]?):w'.ownsRow B e size v n xs:=by
 refine⟨h.1,?_⟩;rcases h.2 with d|⟨f,o,p,d,i,j,m⟩
 ·exact .inl d
 ·exact .inr ⟨f,o,p,d,i,(q f (by rw[d];rfl)).trans j,m⟩
theorem InQ.stay{t s:Value}{add:List Value}{q:Nat}(P:InQ w w' bw tx bn bm nu nm l NU MV c t s add q)(h:LwC w bw tx bn bm nu nm count)(r:Bf w 0 33 nu NU)(p:Bf w 0 3 nm MV)(o:Bf w 0 3 l xs){i:Array Value}(j:u≠33)(f:u≠3)(m:u≠61)(d:zH w k i u):w'.heap[k]?=w.heap[k]? :=
 P.frame.block (zgE.1 d).1 (by rintro rfl;unfold LwC at h;cases h.symm.trans d;exact m rfl) (r.ne j d) (p.ne f d) (o.ne f d)
theorem zq1(i:Nat)(mk:Value):∀(r:List Value),3<=r.length->(((Le i mk++r).set (i*3) mk).set (i*3+1) (vI 0)).set (i*3+2) zN=Le (i+1) mk++r.drop 3
 |a::b::c::r,_=>by
  have e:=zqy i mk;rw[aE _ _ oM,aE _ _ oM,aE _ _ oM,e,Nat.sub_self,show i*3+1-i*3=1 from oM,show i*3+2-i*3=2 from oM,zdf,wA];rfl
 |[],h=>by simp at h
 |[_],h=>by simp at h
 |[_,_],h=>by simp at h
theorem Ya{p:Option Addr}(h:w.ownsRow B e size (.slice p n c) n xs){u:Value}(d:xs[k]?=some u):∃g,p=some (aD g 0)/\w.cell? (aD g k)=some u/\w.frozen? (aD g k)=false:=by
 rcases h.2 with⟨_,i⟩|⟨g,m,o,e,q,j,_⟩
 ·have f:=h.1;rw[i,Nat.zero_mul]at f;rw[List.length_eq_zero_iff.1 f]at d;cases d
 ·injection e with e1 _ _;subst e1;refine⟨g,rfl,?_,eB _ _ _ _ _ j⟩;exact zbb h d
theorem zuh:∀(E:List (Tw.T×Value)) (i:Nat) (h:i<E.length),(Cn E)[i*3+2]?=some E[i].2
 |c::cs,0,_=>rfl
 |c::cs,i+1,h=>by
  have:=zuh cs i (by simpa using h);rw[show(i+1)*3+2=(i*3+2)+3 by omega];exact this
theorem zq2(E:List (Tw.T×Value)):(Cn E).length=E.length*3:=by
 induction E with
 |nil=>rfl
 |cons c cs ih=>
  have e:Cn (c::cs)=[ug c.1.bname,vI c.1.bpl,c.2]++Cn cs:=rfl;rw[e,eA,ih];simp;omega
theorem LF.more{c:World}(h:LF a b bw R R1){o:Option Nat}(d:b.grownBy c o)(i:∀g,o=some g->(∃u∈R,u.ownBlock=some g)\/a.heap.size<=g):LF a c bw R R1 where
 os:=d.os.trans h.os
 tape:=d.tape.trans h.tape
 output:=d.output.trans h.output
 size:=kB h.size d.size
 block {k} hk hb hn:=(d.block k (aB hk h.size) λe=>by
  rcases i k e.symm with⟨u,j,f⟩|m
  ·exact hn u j f
  ·omega).trans (h.block hk hb hn)
 next:=h.next
theorem LF.with{f:List Value}(h:LF a b bw R f)(l:Value):LF a b bw (R++[l]) (f++[l]) where
 os:=h.os
 tape:=h.tape
 output:=h.output
 size:=h.size
 block hk hb hn:=h.block hk hb λv d=>hn v (eD _ d)
 next v d g hg:=by
  rcases zmA.1 d with d|d
  ·exact(h.next v d g hg).imp_left λ⟨u,i,e⟩=>⟨u,eD _ i,e⟩
  ·exact .inl ⟨v,bD _ d,hg⟩
theorem LS.zbp(h:LS w Z bw tx bn bm nu nm count BN BM NU MV)(c:Nat)(hv:v=vI c):LS (w.setCell (aD bw 5) v) Z bw tx bn bm nu nm c BN BM NU MV:=by
 subst hv;have Aq:∀ {k:Nat} {q:Array Value} {u:TypeId},u≠61->zH w k q u->(w.setCell (aD bw 5) (vI c)).heap[k]?=w.heap[k]? :=λ{k q u} r d=>aA w (aD bw 5) k _ (by simpa using h.bw r d);refine⟨Bu h.lw _,h.bns.kept λg f=>?_,h.bms.kept λg f=>?_,h.Jc.kept λg f=>?_,h.marks.kept λg f=>?_,λo v p hv m=>?_,λo v p hv m=>?_,h.apart,h.Yi,h.Yg,λg f=>⟨by simpa using(h.Rb g f).1,(h.Rb g f).2⟩⟩
 ·obtain⟨c,d⟩:=h.bns.blk f;exact Aq dZ d
 ·obtain⟨c,d⟩:=h.bms.blk f;exact Aq dZ d
 ·obtain⟨c,d⟩:=h.Jc.blk f;exact Aq dZ d
 ·obtain⟨c,d⟩:=h.marks.blk f;exact Aq dZ d
 ·obtain⟨k,i,j⟩:=h.zbj o v p hv m;exact⟨k,i,j.zbk λ{g c} _ d=>Aq dZ d⟩
 ·obtain⟨i,j⟩:=h.zbo o v p hv m;exact⟨i,j.Aq λ{g c} _ d=>Aq dZ d⟩
theorem LF.zbp(h:LF a b bw R R1)(v:Value):LF a (b.setCell (aD bw 5) v) bw R R1 where
 os:=h.os
 tape:=h.tape
 output:=h.output
 size:=by simpa using h.size
 block {k} hk hb hn:=(aA b (aD bw 5) k _ (by simpa using hb)).trans (h.block hk hb hn)
 next:=h.next
def Sv(e:Tw.T×Value):List Value:=e.1.useS.map λf:Nat=>Value.int .i64 f
def Rm(bn bm nu nm l:Value)(E:List (Tw.T×Value)):List Value:=[bn,bm,nu,nm,l]++E.map (·.2)
theorem zoe{E:List (Tw.T×Value)}(h:LS w Z bw tx bn bm nu nm count BN BM NU MV)(hl:w.ownsRow 0 48 3 l E.length (Cn E))(hu:∀e∈E,Bf w 0 3 e.2 (Sv e))(hpw:E.Pairwise λa b=>∀g,a.2.ownBlock=some g->b.2.ownBlock≠some g)
  (hz:∀g,l.ownBlock=some g->Z g) (hzu:∀e∈E,∀g,e.2.ownBlock=some g->Z g) (hE:E.length<=2000) (hEu:∀e∈E,e.1.useS.length<=1000) (hN:NU.length<=100000000000) (hB:BN.length<=100000000000) (hBM:BM.length=BN.length) (hc:count<=100000000000) :
  Calls prog 70 #[pT bw,l] w λe w'=>e=.returned (.tuple #[])/\∃bn' bm' nu' nm' BN' BM' NU' MV' count',LS w' (λg=>Z g/\l.ownBlock≠some g/\∀e∈E,e.2.ownBlock≠some g) bw tx bn' bm' nu' nm' count' BN' BM' NU' MV'/\LF w w' bw (Rm bn bm nu nm l E) [bn',bm',nu',nm']/\BN'.length=BN.length+4/\BM'.length=BN'.length/\NU'.length=NU.length+4*E.length/\count'=count+E.length+1:=by
 have H:=bV h;have HL:=bV hl;have HU:=bV hu;have HPW:=bV hpw;have HZ:=bV hz;have HZU:=bV hzu;have HEU:=bV hEu;obtain⟨pl,cl,rfl⟩:=Ij hl;have cB:prog.cellsOf 48=3:=kR;have F0:Hid (LF w w bw (Rm bn bm nu nm (.slice pl E.length cl) E) [bn,bm,nu,nm]):=bV ⟨rfl,rfl,rfl,znL _,λ_ _ _=>rfl,λv hv g hg=>.inl ⟨v,by
  simp only[zmC,tD,or_false]at hv;rcases hv with rfl|rfl|rfl|rfl<;>simp[Rm],hg⟩⟩
 clear h hl hu hpw hz hzu hEu;go_in;go_wp2_with fail;go_loopg[4] E.length (λm iv wr=>∃(i:Nat) (nu' nm':Value) (NU' MV':List Value),iv=vI i/\i+m=E.length/\Hid (LS wr (λg=>Z g/\∀e∈E.take i,e.2.ownBlock≠some g) bw tx bn bm nu' nm' (count+i) BN BM NU' MV')/\Hid (LF w wr bw (Rm bn bm nu nm (.slice pl E.length cl) E) [bn,bm,nu',nm'])/\Hid (wr.ownsRow 0 48 3 (.slice pl E.length cl) E.length (Cn E))/\Hid (∀e∈E.drop i,Bf wr 0 3 e.2 (Sv e))/\NU'.length=NU.length+4*i)
 case atStart=>exact⟨0,nu,nm,NU,MV,rfl,oM,bV (H.o.sub λg hg=>hg.1),F0,HL,bV (by simpa using HU.o),rfl⟩
 case round=>
  obtain⟨i,nu',nm',NU',MV',rfl,him,LR,FR,OR,UR,hNU⟩:=hrel;rcases jD (show i<=E.length by omega)with he|hlt;rotate_left
  ·have hil:(i:Int)<(E.length:Int):=oM;obtain⟨m,rfl⟩:∃m,gk=m+1:=⟨gk-1,oM⟩;obtain⟨gl,rfl,y2,-⟩:=Ya OR.o (zuh E i hlt);have hdr:E.drop i=E[i]::E.drop (i+1):=lD hlt;have hin:E[i]∈E:=List.getElem_mem hlt;have UI:=UR.o E[i] (by rw[hdr];exact List.mem_cons_self);have hpre:∀e∈E.take i,∀g,E[i].2.ownBlock=some g->e.2.ownBlock≠some g:=λe he g hg hh=>by
    obtain⟨a,ha,rfl⟩:=eE he;have ha':a<i:=by
     rw[List.length_take]at ha;omega
    rw[List.getElem_take]at hh;exact List.pairwise_iff_getElem.1 HPW.o a i oM hlt ha' g hh hg
   have hpost:∀e∈E.drop (i+1),∀g,e.2.ownBlock=some g->E[i].2.ownBlock≠some g:=λe he g hg hh=>by
    obtain⟨a,ha,rfl⟩:=eE he;rw[xD]at ha;rw[List.getElem_drop]at hg;exact List.pairwise_iff_getElem.1 HPW.o i (i+1+a) hlt oM oM g hh hg
   have hzi:∀g,E[i].2.ownBlock=some g->Z g/\∀e∈E.take i,e.2.ownBlock≠some g:=λg hg=>⟨HZU.o _ hin g hg,λe he=>hpre e he g hg⟩;have hul:(Sv E[i]).length<=1000:=(by rw[Sv,uD];exact HEU.o _ hin);have IN:=bV (zqx LR.o.lw LR.o.Jc LR.o.marks UI hul oM LR.o.Yi oM (λg hg=>(LR.o.Rb g (hzi g hg)).2.1));have UI:=bV UI;have HZI:=bV hzi;have HPO:=bV hpost;have HIN:=bV hin;obtain⟨ev,hev⟩:∃ev,E[i].2=ev:=⟨_,rfl⟩;rw[hev]at y2 IN UI HZI HPO;have HEV:=bV hev;obtain⟨pu,cu,rfl⟩:=UI.o.slice;clear hdr hin hpre hpost hzi hul hev;go_wp2_with fail;refine IN.o.mono ?_;rintro e1 w2 ⟨rfl,nu2,nm2,add,P,hadd⟩;have L2:=LR.o.ints UI.o HZI.o P;have F2:=FR.o.trans (LF.ztl P) (λu hu g hg=>by
    simp only[zmC,tD,or_false]at hu;rcases hu with rfl|rfl|rfl|rfl|rfl
    ·exact FR.o.next _ sM g hg
    ·exact FR.o.next _ sM g hg
    ·exact FR.o.next _ sM g hg
    ·exact FR.o.next _ sM g hg
    ·exact .inl ⟨_,by rw[Rm];exact bD _ (List.mem_map.2 ⟨_,HIN.o,HEV.o⟩),hg⟩)
   have O2:=Ai OR.o λg c hc=>(P.stay LR.o.lw LR.o.Jc LR.o.marks UI.o dZ dZ dZ hc).trans hc;have U2:∀e∈E.drop (i+1),Bf w2 0 3 e.2 (Sv e):=λe he=>by
    have he':e∈E.drop i:=(by rw[lD hlt];exact List.mem_cons_of_mem _ he);have hE':e∈E:=List.mem_of_mem_drop he;refine(UR.o e he').kept λg hg=>?_;obtain⟨c,hc⟩:=(UR.o e he').blk hg;refine P.frame.block (zgE.1 hc).1 (LR.o.bw dZ hc) (LR.o.Jc.ne dZ hc) (λq=>?_) (λq=>HPO.o e he g hg q.symm);refine(LR.o.Rb g ⟨HZU.o e hE' g hg,λe2 he2 q2=>?_⟩).2.1 q.symm;obtain⟨a,ha,rfl⟩:=eE he2;obtain⟨b,hb,rfl⟩:=eE he;rw[List.length_take]at ha;rw[xD]at hb;rw[List.getElem_take]at q2;rw[List.getElem_drop]at hg;exact List.pairwise_iff_getElem.1 HPW.o a (i+1+b) oM oM oM g q2 hg
   have L2:=bV (L2.sub (Z':=λg=>Z g/\∀e∈E.take (i+1),e.2.ownBlock≠some g) λg hg=>⟨⟨hg.1,λe he=>hg.2 e (by rw[cE hlt];exact eD _ he)⟩,λq=>hg.2 E[i] (by rw[cE hlt];exact bD _ (List.mem_singleton_self _)) (by rw[HEV.o];exact q)⟩);have F2:=bV F2;have O2:=bV O2;have U2:=bV U2;have hNU2:(NU'++add).length=NU.length+4*(i+1):=(by rw[eA,hadd];omega);clear P IN LR FR OR UR UI HZI HPO hNU y2;go_wp2_with fail;go_roundg m
   case measure=>omega
   case rel=>exact⟨i+1,_,_,_,_,by push_cast;rfl,oM,L2,F2,O2,U2,hNU2⟩
  ·have hil:¬(i:Int)<(E.length:Int):=oM;subst he;rw[List.take_length]at LR;obtain⟨c1,hc1⟩:∃c1,count+E.length=c1:=⟨_,rfl⟩;rw[hc1]at LR;have hc1l:c1<=200000000000:=oM;obtain⟨-,-,-,-,-,c5⟩:=LR.o.lw.cells;have f5:wr.frozen? (aD bw 5)=false:=eB _ _ _ _ _ LR.o.lw;have L3:=bV (LR.o.zbp (c1+1) (v:=vI ((c1:Int)+1)) (by push_cast;rfl));have F3:=bV (FR.o.zbp (vI ((c1:Int)+1)));have O3:=bV (Ai (Y:=wr.setCell (aD bw 5) (vI ((c1:Int)+1))) OR.o λg c hc=>(aA wr (aD bw 5) g _ (by simpa using LR.o.bw dZ hc)).trans hc);go_upto_region 5 with fail;obtain⟨w3,hw3⟩:∃w3,wr.setCell (aD bw 5) (vI ((c1:Int)+1))=w3:=⟨_,rfl⟩;rw[hw3]at L3 F3 O3;rw[hw3];obtain⟨C,hC⟩:∃C,c1+1=C:=⟨_,rfl⟩;rw[hC]at L3;have HC:=bV (show count+E.length+1=C by omega);have hCl:C<=200000000001:=oM;clear hw3 c5 f5 hC hc1 hc1l LR FR OR UR;obtain⟨-,-,-,-,-,c5⟩:=L3.o.lw.cells;go_wp2_with fail;refine(zod C oM w3).mono ?_;rintro e1 w4 ⟨⟨ms,rfl,hms⟩,hg4⟩;obtain⟨sm,hsm⟩:∃sm,ug ms=.string sm:=⟨_,rfl⟩;rw[hsm];have L4:=bV ((L3.o.zfd hg4 (λg hg=>by cases hg)).zfd (zwA w4 (.cells #[.string sm,vI 0,zN] 48) none) (λg hg=>by cases hg));have F4:=bV ((F3.o.more hg4 (λg hg=>by cases hg)).more (zwA w4 (.cells #[.string sm,vI 0,zN] 48) none) (λg hg=>by cases hg));have O4:=bV (Bs (Bs O3.o hg4) (zwA w4 (.cells #[.string sm,vI 0,zN] 48) none));have N4:=bV (Ac w4 (.cells #[.string sm,vI 0,zN] 48));have hz4:w.heap.size<=w4.heap.size:=kB F3.o.size hg4.size;clear hg4 L3 F3 O3 c5 hsm hms;go_upto_region 6 with fail;obtain⟨w5,hw5⟩:∃w5,w4.alloc (.cells #[.string sm,vI 0,zN] 48)=w5:=⟨_,rfl⟩;obtain⟨bx,hbx⟩:∃bx,w4.heap.size=bx:=⟨_,rfl⟩;rw[hw5]at L4 F4 O4 N4;rw[hbx]at N4 hz4;rw[hw5,hbx];clear hw5 hbx;have HGL:Hid (∀g,(Value.slice pl E.length cl).ownBlock=some g->g<w.heap.size/\Z g/\∀e∈E,e.2.ownBlock≠some g):=bV λg hg=>by
    obtain⟨_,c,hc⟩:=Qy HL.o hg;exact⟨(zgE.1 hc).1,HZ.o g hg,λe he q=>(HU.o e he).ne dZ hc q.symm⟩
   clear HL HU HPW HZ HZU HEU H;go_wp2_with fail;go_loopg[6] E.length (λm iv wy=>∃i:Nat,iv=vI i/\i+m=E.length/\Hid (LS wy (λg=>Z g/\∀e∈E,e.2.ownBlock≠some g) bw tx bn bm nu' nm' C BN BM NU' MV')/\Hid (LF w wy bw (Rm bn bm nu nm (.slice pl E.length cl) E) [bn,bm,nu',nm'])/\Hid (wy.ownsRow 0 48 3 (.slice pl E.length cl) E.length (Le i (.string sm)++(Cn E).drop (i*3)))/\Hid (zH wy bx #[.string sm,vI 0,zN] 48))
   case atStart=>exact⟨0,rfl,oM,L4,F4,bV (by simpa[Le]using O4.o),N4⟩
   case round=>
    clear L4 F4 O4 N4;obtain⟨i,rfl,him2,LY,FY,OY,NY⟩:=hrel;rcases jD (show i<=E.length by omega)with he|hlt;rotate_left
    ·have hil2:(i:Int)<(E.length:Int):=oM;obtain⟨m,rfl⟩:∃m,gk=m+1:=⟨gk-1,oM⟩;have hlen:=OY.o.1;obtain⟨u0,hu0⟩:∃u,(Le i (.string sm)++(Cn E).drop (i*3))[i*3]?=some u:=⟨_,fA (by rw[hlen];omega)⟩;obtain⟨u1,hu1⟩:∃u,(Le i (.string sm)++(Cn E).drop (i*3))[i*3+1]?=some u:=⟨_,fA (by rw[hlen];omega)⟩;obtain⟨u2,hu2⟩:∃u,(Le i (.string sm)++(Cn E).drop (i*3))[i*3+2]?=some u:=⟨_,fA (by rw[hlen];omega)⟩;obtain⟨gl,rfl,a0,af0⟩:=Ya OY.o hu0;obtain⟨_,q,a1,af1⟩:=Ya OY.o hu1;cases q;obtain⟨_,q,a2,af2⟩:=Ya OY.o hu2;cases q;obtain⟨x0,x1,x2⟩:=Fq NY.o;obtain⟨zl,zz⟩:=HGL.o gl rfl;have s1:=ze5 (k:=i*3) OY.o rfl (.string sm);have s2:=ze5 (k:=i*3+1) s1.1 rfl (vI 0);have s3:=ze5 (k:=i*3+2) s2.1 rfl zN;have gg:=A6 (A6 s1.2 s2.2) s3.2;have R3:=s3.1;rw[zq1 i (.string sm) _ (by rw[xD,zq2];omega),List.drop_drop]at R3;have L6:=bV (LY.o.zfd gg (λg hg=>by cases hg;exact⟨zz,(Qy OY.o rfl).2⟩));have F6:=bV (FY.o.more gg (λg hg=>by cases hg;exact .inl ⟨sL gl E.length cl,by simp[Rm],rfl⟩));have N6:=bV ((gg.block bx (zgE.1 NY.o).1 (by simp;omega)).trans NY.o);have R6:=bV R3;clear s1 s2 s3 gg R3 hu0 hu1 hu2 hlen LY FY OY NY zz zl;go_wp2_with fail;go_roundg m
     case measure=>omega
     case rel=>exact⟨i+1,by push_cast;rfl,oM,L6,F6,bV (by rw[show(i+1)*3=i*3+3 by omega];exact R6.o),N6⟩
    ·have hil2:¬(i:Int)<(E.length:Int):=oM;subst he;have R7:Hid (wr.ownsRow 0 48 3 (.slice pl E.length cl) (E.length+0) (Le (E.length+0) (.string sm))):=bV (by have:=OY.o;rw[List.drop_eq_nil_of_le (by rw[zq2];omega),List.append_nil]at this;exact this);have L7:=bV (LY.o.sub (Z':=λg=>Z g/\(∀e∈E,e.2.ownBlock≠some g)/\(Value.slice pl E.length cl).ownBlock≠some g) λg hg=>⟨hg.1,hg.2.1⟩);have F7:Hid (LF w wr bw (Rm bn bm nu nm (.slice pl E.length cl) E) [bn,bm,nu',nm',.slice pl E.length cl]):=bV ⟨FY.o.os,FY.o.tape,FY.o.output,FY.o.size,FY.o.block,λv hv g hg=>by
      simp only[zmC,tD,or_false]at hv;rcases hv with rfl|rfl|rfl|rfl|rfl
      ·exact FY.o.next _ sM g hg
      ·exact FY.o.next _ sM g hg
      ·exact FY.o.next _ sM g hg
      ·exact FY.o.next _ sM g hg
      ·exact .inl ⟨.slice pl E.length cl,by simp[Rm],hg⟩⟩
     have S7:Hid (∀(i:Nat) (v m:Value),BN[i]?=some v->BM[i]?=some m->∀g,v.ownBlock=some g->(Value.slice pl E.length cl).ownBlock=some g->m=.string sm/\∀q n c,v=.slice q n c->n<=E.length+0):=bV λk v mm hv _ g hg hl=>absurd hg ((LY.o.Rb g (HGL.o g hl).2).2.2.2 v (dD hv));have W7:Hid (∀g,(Value.slice pl E.length cl).ownBlock=some g->¬(Z g/\(∀e∈E,e.2.ownBlock≠some g)/\(Value.slice pl E.length cl).ownBlock≠some g)/\g≠bx):=bV λg hg=>⟨λhz=>hz.2.2 hg,by have:=(HGL.o g hg).1;omega⟩;obtain⟨b0,hb0,hw0,hw1,hw2⟩:=info_parts Tryz.zun;clear LY FY OY;go_wp2_with fail;go_loopg[1,7] 65 (λm lv iv wy=>∃(j:Nat) (bn' bm':Value) (BN' BM':List Value),iv=vI j/\j+m=65/\Hid (LS wy (λg=>Z g/\(∀e∈E,e.2.ownBlock≠some g)/\(Value.slice pl E.length cl).ownBlock≠some g) bw tx bn' bm' nu' nm' C BN' BM' NU' MV')/\Hid (LF w wy bw (Rm bn bm nu nm (.slice pl E.length cl) E) [bn',bm',nu',nm',lv])/\Hid (wy.ownsRow 0 48 3 lv (E.length+j) (Le (E.length+j) (.string sm)))/\Hid (∀g,lv.ownBlock=some g->¬(Z g/\(∀e∈E,e.2.ownBlock≠some g)/\(Value.slice pl E.length cl).ownBlock≠some g)/\g≠bx)/\Hid (∀(i:Nat) (v m:Value),BN'[i]?=some v->BM'[i]?=some m->∀g,v.ownBlock=some g->lv.ownBlock=some g->m=.string sm/\∀q n c,v=.slice q n c->n<=E.length+j)/\Hid (zH wy bx #[.string sm,vI 0,zN] 48)/\Hid (BM'.length=BN'.length/\BN'.length=BN.length+if j<=3 then j else if j<=64 then 3 else 4))
     case atStart=>exact⟨0,bn,bm,BN,BM,rfl,oM,L7,F7,R7,W7,S7,NY,bV ⟨hBM,rfl⟩⟩
     case round=>
      clear L7 F7 R7 W7 S7 NY;obtain⟨j,bn',bm',BN',BM',rfl,hjm,LSB,FRB,ROW,OWN,SAM,BXB,LEN⟩:=hrel;rcases jD (show j<=65 by omega)with rfl|hlt
      ·go_wp2_with fail;go_end0;exact⟨rfl,bn',bm',nu',nm',BN',BM',NU',MV',C,LSB.o.sub λg hg=>⟨hg.1,hg.2.2,hg.2.1⟩,{FRB.o with next:=λv hv=>FRB.o.next v (eD [_] hv)},by simpa using LEN.o.2,LEN.o.1,hNU,HC.o.symm⟩
      ·obtain⟨pv,cv,rfl⟩:=Ij ROW.o;have hj3:(j:Int)<=64:=oM;obtain⟨m,rfl⟩:∃m,gk=m+1:=⟨gk-1,oM⟩;by_cases hrec:j<3\/j=64
       case' pos=>
        obtain⟨-,d1,-,-,-,-⟩:=LSB.o.lw.cells;obtain⟨pb,cb,rfl⟩:=LSB.o.bns.slice;have hkl:BN'.length<=100000000004:=(by have:=LEN.o.2;split at this<;>(try split at this)<;>omega);have hmx:BN'.length+1<=maxLen:=(by unfold maxLen;omega);have hby:(BN'.length+1)*24<=140737488355328:=oM;have ga:=zwA wr (.cells #[.slice pv (E.length+j) cv] 45) none;have NA:Hid ((wr.alloc (.cells #[.slice pv (E.length+j) cv] 45)).ownsRow 0 45 1 (.slice pb BN'.length cb) BN'.length BN'):=bV (LSB.o.bns.grown ga);have GA:=bV ga;clear ga;have hll:(prog.info? 45).map (λi=>(i.zero,i.size,i.bytes))=some (some zN,1,24):=kR;obtain⟨l0,hl0,hy0,hy1,hy2⟩:=info_parts hll;rcases hrec with hj|hj
        case' inl=>have hj1:(j:Int)<3:=oM
        case' inr=>
         have hj1:¬(j:Int)<3:=oM;have hj2:((j:Int)==64)=true:=by simp;omega
        all_goals
         have HJ:=bV hj;clear hj
        all_goals
         go_wp2_with (at_builtin;refine Dy _ rfl _ _ 58 rfl 0 45 l0 zN 1 24 underlying58 hl0 hy0 hy1 hy2 rfl dZ (.slice pb BN'.length cb) BN'.length BN' rfl NA.o (aD wr.heap.size 0) 1 1 [.slice pv (E.length+j) cv] rfl rfl (J7 _ _ _) (by intro u hu;simp at hu;subst hu;rfl) dZ hmx hby (yD _) ?_;intro g9 cap9 w9 hown9 hway9 hlt9;have O9:=bV hown9;have Y9:=bV hway9;have L9:LwC w9 _ _ _ _ _ _ _:=(Jo (j:=1) (v9:=.pointer none) (λhu hc=>LSB.o.bns.ne hu hc) dZ LSB.o.lw GA.o hway9).2.1.trans LSB.o.lw;have z9:=L9.cells.2.1;have f9:w9.frozen? (aD bw 1)=false:=eB _ _ _ _ _ L9;clear hown9 hway9 L9);have RW9:Bf w9 0 45 (sL g9 (BN'.length+1) cap9) (BN'++[.slice pv (E.length+j) cv]):=by
          have:=O9.o;unfold Bf;rw[eA];exact this
         obtain⟨LB,FB⟩:=LSB.o.zwa (λg hg=>(OWN.o g hg).1) GA.o Y9.o RW9;obtain⟨all9,-⟩:=Jo (j:=1) (v9:=sL g9 (BN'.length+1) cap9) (λhu hc=>LSB.o.bns.ne hu hc) dZ LSB.o.lw GA.o Y9.o;have RB:=Ai ROW.o λg c hc=>(all9 dZ dZ hc).trans hc;have XB:=(all9 dZ dZ BXB.o).trans BXB.o;have FB:=FRB.o.trans (FB.with (.slice pv (E.length+j) cv)) (λu hu g hg=>FRB.o.next u hu g hg);have LB:=bV LB;have FB:=bV FB;have RB:=bV RB;have XB:=bV XB;obtain⟨wb,hwb⟩:∃wb,w9.setCell (aD bw 1) (sL g9 (BN'.length+1) cap9)=wb:=⟨_,rfl⟩;rw[hwb]at LB FB RB XB;rw[hwb];obtain⟨-,-,d2,-,-,-⟩:=LB.o.lw.cells;obtain⟨x0,-,-⟩:=Fq XB.o;clear hwb RW9 O9 Y9 GA NA LSB FRB ROW BXB d1 z9 f9 all9 hmx hby hll hl0 hy0 hy1 hy2;obtain⟨pm,cm,rfl⟩:=LB.o.bms.slice;have hkml:BM'.length<=100000000004:=(by have:=LEN.o.1;omega);have hmx2:BM'.length+1<=maxLen:=(by unfold maxLen;omega);have hby2:(BM'.length+1)*16<=140737488355328:=oM;have hmo:prog.follows .mixedOrders=true:=kR;have hss:(prog.info? 9).map (λi=>(i.zero,i.size,i.bytes))=some (some (.string ⟨#[]⟩),1,16):=kR;obtain⟨s0,hs0,hv0,hv1,hv2⟩:=info_parts hss;refine Ga (λW=>W.cell? (aD bx 0)=some (.string sm)) hmo x0 ?_;intro hSd;have gd:wb.grownBy wb.drew none:=Ad (Aa wb);have e2:wb.drew.cell? (aD bw 2)=some (.slice pm BM'.length cm):=d2;obtain⟨wd,hwd⟩:∃wd,wb.drew=wd:=⟨_,rfl⟩;rw[hwd]at hSd gd e2;rw[hwd];clear hwd d2 x0;have ga2:wb.grownBy (wd.alloc (.cells #[.string sm] 9)) none:=Aj gd _;have MA:Hid ((wd.alloc (.cells #[.string sm] 9)).ownsRow 0 9 1 (.slice pm BM'.length cm) BM'.length BM'):=bV (LB.o.bms.grown ga2);have NB:=J7 wd (.string sm) 9;have A0:=(Fq (zbG ga2 XB.o)).1;have A2:(wd.alloc (.cells #[.string sm] 9)).cell? (aD bw 2)=some (.slice pm BM'.length cm):=by
          rw[mB _ _ _ _ _ _ (zbG ga2 LB.o.lw)];rfl
         have GA2:=bV ga2;clear ga2 gd;refine tkH 0 (v:=pT bw) rfl (λW hW=>by go_simp) hSd ?_;simp only[Act.put];refine tkH 1 (v:=pT bw) rfl (λW hW=>by go_simp) hSd ?_;simp only[Act.put];refine tkH 2 (v:=pT bw) rfl (λW hW=>by go_simp) hSd ?_;simp only[Act.put];refine tkH 3 (v:=.pointer (some (aD bw 2))) rfl (λW hW=>by go_simp) hSd ?_;simp only[Act.put];refine tkH 5 (v:=pT bx) rfl (λW hW=>by go_simp) hSd ?_;simp only[Act.put];refine tkH 6 (v:=.string sm) rfl (λW hW=>by go_simp) hSd ?_;simp only[Act.put];refine gE (rs:=[4,7]) kR sM ?_;refine yA rfl (λK hK=>?_) (yA rfl (λK hK=>?_) zA)
         case' _=>
          go_simp;refine hK.out _ _ hSd (λhSd=>?_);clear hK K;refine gE (rs:=[7]) kR sM ?_;refine yA rfl (λK hK=>?_) zA;go_simp;refine hK.out _ _ A0 (λhSd=>?_);clear hK K
         rotate_left
         case' _=>
          go_simp;refine hK.out _ _ A0 (λhSd=>?_);clear hK K;refine gE (rs:=[4]) kR sM ?_;refine yA rfl (λK hK=>?_) zA;go_simp;refine hK.out _ _ A0 (λhSd=>?_);clear hK K
         all_goals
          clear hSd e2;refine gE (rs:=[8]) kR sM ?_;refine yA rfl (λK hK=>?_) zA;rw[mA (by rfl)];refine Md _ _ _ 30 rfl 0 9 s0 (.string ⟨#[]⟩) 1 16 underlying30 hs0 hv0 hv1 hv2 rfl dZ (.slice pm BM'.length cm) BM'.length BM' rfl MA.o (aD wd.heap.size 0) 1 1 [.string sm] rfl rfl NB (by intro u hu;simp at hu;subst hu;rfl) dZ hmx2 hby2 (yD _) ?_;intro g8 cap8 w8 hown8 hway8 _;obtain⟨all8,L8,-⟩:=Jo (j:=2) (v9:=sL g8 (BM'.length+1) cap8) (λhu hc=>LB.o.bms.ne hu hc) dZ LB.o.lw GA2.o hway8;have L8:LwC w8 _ _ _ _ _ _ _:=L8.trans LB.o.lw;have z8:=L8.cells.2.2.1;have f8:w8.frozen? (aD bw 2)=false:=eB _ _ _ _ _ L8;have RW8:Bf w8 0 9 (sL g8 (BM'.length+1) cap8) (BM'++[.string sm]):=by
           have:=hown8;unfold Bf;rw[eA];exact this
          have hlenB:=LEN.o.1;obtain⟨LC,FC⟩:=LB.o.zv9 ⟨sm,rfl⟩ (by rw[eA,hlenB];exact znL _) (λv hv=>by
           rw[hlenB,fB (znL _),Nat.sub_self]at hv;cases hv;exact Zl.zks RB.o) GA2.o hway8 RW8
          have RC:=Ai RB.o λg c hc=>(all8 dZ dZ hc).trans hc;have XC:=(all8 dZ dZ XB.o).trans XB.o;have y8:w8.cell? (aD bx 0)=some (.string sm):=by
           refine(Fq (t:=48) (a0:=.string sm) (a1:=vI 0) (a2:=zN) ?_).1
           have:=(Jo (j:=2) (v9:=sL g8 (BM'.length+1) cap8) (λhu hc=>LB.o.bms.ne hu hc) dZ LB.o.lw GA2.o hway8);refine(?_:w8.heap[bx]?=wb.heap[bx]?).trans XB.o;have hk:=(zgE.1 XB.o).1;have hz5:=GA2.o.size;rcases hway8 with⟨q1,q2⟩|⟨q1,q2⟩
           ·exact(q2.block bx oM (λq=>by cases q;exact LB.o.bms.ne dZ XB.o q1.symm)).trans (GA2.o.block bx hk sM)
           ·exact(q2.block bx oM sM).trans (GA2.o.block bx hk sM)
          have FC:=FB.o.trans (FC.with (.slice pv (E.length+j) cv)) (λu hu g hg=>FB.o.next u hu g hg);have SC:∀(i:Nat) (v m:Value),(BN'++[.slice pv (E.length+j) cv])[i]?=some v->(BM'++[.string sm])[i]?=some m->∀g,v.ownBlock=some g->(Value.slice pv (E.length+j) cv).ownBlock=some g->m=.string sm/\∀q n c,v=.slice q n c->n<=E.length+j:=λk v mm hv hm g hg hl=>by
           rcases yB k BN'.length with hk|hk
           ·rw[iA hk]at hv;rw[iA oM]at hm;exact SAM.o k v mm hv hm g hg hl
           ·rw[fB hk]at hv;rw[fB oM]at hm;have e0:k=BN'.length:=by
             have:=(zlE.1 hv).1;simp at this;omega
            subst e0;rw[Nat.sub_self]at hv;rw[hlenB,Nat.sub_self]at hm;cases hv;cases hm;exact⟨rfl,λq n c e=>by cases e;exact znL _⟩
          have LC:=bV LC;have FC:=bV FC;have RC:=bV RC;have XC:=bV XC;have SC:=bV SC;clear hown8 hway8 L8 RW8 LB FB RB XB SAM MA NB A0 A2 GA2 all8 hlenB;refine hK.out _ _ y8 (λhSd=>?_);clear hK K;refine gE (rs:=[9]) kR sM ?_;refine yA rfl (λK hK=>?_) zA;go_simp;refine hK.out _ _ y8 (λhSd=>?_);clear hK K;refine gE (rs:=[10]) kR sM ?_;refine yA rfl (λK hK=>?_) zA;go_simp;refine hK.out _ _ y8 (λhSd=>?_);clear hK K;refine gE (rs:=[11]) kR sM ?_;refine yA rfl (λK hK=>?_) zA;go_simp;refine hK.out _ _ (Fq XC.o).1 (λ_=>?_);clear hK K hSd z8 f8 y8;refine iE kR ⟨rfl,?_⟩ _;obtain⟨wc,hwc⟩:∃wc,w8.setCell (aD bw 2) (sL g8 (BM'.length+1) cap8)=wc:=⟨_,rfl⟩;rw[hwc]at LC FC RC XC;rw[hwc];clear hwc;have LSB:=LC;have FRB:=FC;have ROW:=RC;have SAM:=SC;have BXB:=XC;clear LC FC RC SC XC;have LEN2:Hid ((BM'++[Value.string sm]).length=(BN'++[Value.slice pv (E.length+j) cv]).length/\(BN'++[Value.slice pv (E.length+j) cv]).length=BN.length+if j+1<=3 then j+1 else if j+1<=64 then 3 else 4):=bV ⟨by rw[eA,eA,LEN.o.1];rfl,by have:=HJ.o;have:=LEN.o.2;rw[eA,wB];split at this<;>split<;>(try split at this)<;>(try split)<;>omega⟩
       case' neg=>
        have hj1:¬(j:Int)<3:=oM;have hj2:((j:Int)==64)=false:=(by simp;omega);obtain⟨wc,rfl⟩:∃wc,wc=wr:=⟨_,rfl⟩;have LEN2:Hid (BM'.length=BN'.length/\BN'.length=BN.length+if j+1<=3 then j+1 else if j+1<=64 then 3 else 4):=bV ⟨LEN.o.1,by have:=LEN.o.2;split at this<;>split<;>(try split at this)<;>(try split)<;>omega⟩
       all_goals
        have ga5:=zwA wc (.cells #[.string sm,vI 0,zN] 48) none;have GA5:=bV ga5;have hmx5:E.length+j+1<=maxLen:=(by unfold maxLen;omega);have OA5:=bV (Bs ROW.o ga5);have NB5:=jE (Ac wc (.cells #[.string sm,vI 0,zN] 48));obtain⟨x0,x1,x2⟩:=Fq BXB.o;clear ga5;go_wp2_with (at_builtin;refine Dy _ rfl _ _ 45 rfl 0 48 b0 (.agg #[.string ⟨#[]⟩,vI 0,zN]) 3 48 underlying45 hb0 hw0 hw1 hw2 rfl dZ (.slice pv (E.length+j) cv) (E.length+j) (Le (E.length+j) (.string sm)) rfl OA5.o (aD wc.heap.size 0) 1 1 [.string sm,vI 0,zN] rfl rfl NB5 (by intro u hu;simp at hu;rcases hu with rfl|rfl|rfl<;>rfl) dZ hmx5 oM (yD _) ?_;intro g5 cap5 w5 hown5 hway5 hlt5;have O5:=bV hown5;have Y5:=bV hway5;clear hown5 hway5);have RW5:w5.ownsRow 0 48 3 (sL g5 (E.length+j+1) cap5) (E.length+j+1) (Le (E.length+j+1) (.string sm)):=(by rw[zdf];exact O5.o);obtain⟨L5,F5,S5⟩:=LSB.o.zwb ROW.o SAM.o GA5.o Y5.o RW5;have hbx5:w5.heap[bx]?=some (.cells #[.string sm,vI 0,zN] 48 (0,0)):=by
         refine(?_:w5.heap[bx]?=wc.heap[bx]?).trans BXB.o;have hk:=(zgE.1 BXB.o).1;have hz5:=GA5.o.size;rcases Y5.o with⟨q1,q2⟩|⟨q1,q2⟩
         ·exact(q2.block bx oM (λq=>by cases q;exact(OWN.o _ q1).2 rfl)).trans (GA5.o.block bx hk sM)
         ·exact(q2.block bx oM sM).trans (GA5.o.block bx hk sM)
        have own5:∀g,(sL g5 (E.length+j+1) cap5).ownBlock=some g->¬(Z g/\(∀e∈E,e.2.ownBlock≠some g)/\(Value.slice pl E.length cl).ownBlock≠some g)/\g≠bx:=λg hg=>by
         have q:g5=g:=(by simpa[Value.ownBlock]using hg);subst q;have hk:=(zgE.1 BXB.o).1;have hz5:=GA5.o.size;rcases Y5.o with⟨q1,_⟩|⟨q1,_⟩
         ·exact OWN.o _ q1
         ·exact⟨λhz=>by have:=(LSB.o.Rb g5 hz).1;omega,oM⟩
        have F5:=bV (FRB.o.trans F5 (λu hu g hg=>FRB.o.next u hu g hg));have L5:=bV L5;have S5:=bV S5;have RW5:=bV RW5;have BX5:=bV hbx5;have OW5:=bV own5;clear O5 Y5 GA5 OA5 NB5 LSB ROW SAM FRB BXB OWN x0 x1 x2 hbx5 own5;go_wp2_with fail;go_roundg m
        case measure=>omega
        case rel=>exact⟨j+1,_,_,_,_,by push_cast;rfl,oM,L5,F5,RW5,OW5,S5,BX5,LEN2⟩
end
end
section
open Go.Proofs.Tryz
open Go.RowKit
section
variable{w:World}{v tx bn bm nu nm:Value}{Z:Nat->Prop}{bw count:Nat}{BN BM NU MV:List Value}
theorem Tz.slice{m:Int}(h:Tz w v m):∃p n c,v=.slice p n c/\n<=maxLen/\∀k,k<n->∃g,p=some (aD g 0)/\w.cell? (aD g k)=some (vI m):=by
 rcases h with⟨c,rfl⟩|⟨g,n,c,rfl,d,-,b⟩
 ·exact⟨_,_,_,rfl,yD _,λk a=>oM⟩
 ·exact⟨_,_,_,rfl,d,λk a=>⟨g,rfl,b k a⟩⟩
theorem Zl.slice{m:Value}(h:Zl w v m):∃p n c,v=.slice p n c/\n<=maxLen/\∀k,k<n->∃g,p=some (aD g 0)/\w.cell? (aD g (k*3))=some m/\w.cell? (aD g (k*3+1))=some (vI 0)/\w.cell? (aD g (k*3+2))=some zN:=by
 rcases h with⟨c,rfl⟩|⟨g,n,c,rfl,d,-,b⟩
 ·exact⟨_,_,_,rfl,yD _,λk a=>oM⟩
 ·exact⟨_,_,_,rfl,d,λk a=>⟨g,rfl,b k a⟩⟩
theorem LS.grown{w':World}(h:LS w Z bw tx bn bm nu nm count BN BM NU MV)(a:zG w w'):LS w' Z bw tx bn bm nu nm count BN BM NU MV:=h.zfd a (λg a=>by cases a)
theorem zof(h:LS w Z bw tx bn bm nu nm count BN BM NU MV)(a5:BM.length=BN.length)(a6:NU.length<=1000000000000)(a4:BN.length<=1000000000000):
  Calls prog 31 #[pT bw] w λe w'=>e=.returned (.bool true)/\zG w w':=by
 have a7:=h.Yi;obtain⟨pn,Y,rfl⟩:=h.Jc.slice;obtain⟨pm,X,rfl⟩:=h.marks.slice;obtain⟨pb,W,rfl⟩:=h.bns.slice;obtain⟨pq,cq,rfl⟩:=h.bms.slice;have a8:maxLen=9223372036854775807:=rfl;go_in;go_wp21;go_loopg[3] NU.length (λD B wr=>∃i:Nat,B=vI i/\i+D=NU.length/\(zG w wr))
 case atStart=>exact⟨0,rfl,oM,(Aa w)⟩
 case round=>
  obtain⟨i,rfl,R,f⟩:=hrel;have j:=h.grown f;obtain⟨-,-,-,O,P,-⟩:=j.lw.cells;rcases jD (show i<=NU.length by omega)with t|z;rotate_left
  ·have x:(i:Int)<(NU.length:Int):=oM;obtain⟨v,d⟩:∃v,NU[i]?=some v:=⟨_,fA z⟩;obtain⟨mk,b⟩:∃mk,MV[i]?=some mk:=⟨_,fA oM⟩;obtain⟨k0,rfl,m⟩:=h.zbj i v mk d b;obtain⟨p,n,c,rfl,T,-⟩:=m.slice;obtain⟨gn,rfl,-,I,-⟩:=j.Jc.at' d;obtain⟨gm,rfl,-,-⟩:=j.marks.at' b;go_wp21;go_loopg[4] n (λE C H=>∃k:Nat,C=vI k/\k+E=n/\(zG w H))
   case atStart=>exact⟨0,rfl,oM,f⟩
   case round=>
    obtain⟨k,rfl,S,g⟩:=hrel;have a:=h.grown g;obtain⟨-,-,-,O,P,-⟩:=a.lw.cells;obtain⟨a2,e,-,I,-⟩:=a.Jc.at' d;cases e;obtain⟨a1,e,-,U,-⟩:=a.marks.at' b;cases e;rcases jD (show k<=n by omega)with t|A
    ·have y:¬(k:Int)<(n:Int):=oM;go_wp21;go_roundg (NU.length-(i+1))
     case measure=>omega
     case rel=>exact⟨i+1,by push_cast;rfl,oM,g⟩
    ·have y:(k:Int)<(n:Int):=oM;have⟨kk,e,m⟩:=a.zbj i _ _ d b;cases e;obtain⟨_,_,_,e,-,s⟩:=m.slice;cases e;obtain⟨Q,rfl,V⟩:=s k A;go_wp21;go_quiet (fail);obtain⟨l,o⟩:∃l,wr.drewN nq=l:=⟨_,rfl⟩;have q:zG w l:=(Ab g (by rw[<-o];exact Cc _ _));rw[o];go_wp21;go_roundg (n-(k+1))
     case measure=>omega
     case rel=>exact⟨k+1,by push_cast;rfl,oM,q⟩
  ·have x:¬(i:Int)<(NU.length:Int):=oM;go_wp21;go_loopg[5] BN.length (λD B wr=>∃i:Nat,B=vI i/\i+D=BN.length/\(zG w wr))
   case atStart=>exact⟨0,rfl,oM,f⟩
   case round=>
    obtain⟨i,rfl,R,f⟩:=hrel;have j:=h.grown f;obtain⟨-,J,L,-,-,-⟩:=j.lw.cells;rcases jD (show i<=BN.length by omega)with t|z
    ·have x:¬(i:Int)<(BN.length:Int):=oM;go_wp21;go_ret;exact⟨rfl,f⟩
    ·have x:(i:Int)<(BN.length:Int):=oM;obtain⟨v,d⟩:∃v,BN[i]?=some v:=⟨_,fA z⟩;obtain⟨mk,b⟩:∃mk,BM[i]?=some mk:=⟨_,fA oM⟩;obtain⟨⟨G,rfl⟩,m⟩:=h.zbo i v mk d b;obtain⟨p,n,c,rfl,T,-⟩:=m.slice;obtain⟨gb,rfl,-,I,-⟩:=j.bns.at' d;obtain⟨gq,rfl,-,-⟩:=j.bms.at' b;go_wp21;go_loopg[6] n (λE C H=>∃k:Nat,C=vI k/\k+E=n/\(zG w H))
     case atStart=>exact⟨0,rfl,oM,f⟩
     case round=>
      obtain⟨k,rfl,S,g⟩:=hrel;have a:=h.grown g;obtain⟨-,J,L,-,-,-⟩:=a.lw.cells;obtain⟨a0,e,-,I,-⟩:=a.bns.at' d;cases e;rcases jD (show k<=n by omega)with t|A
      ·have y:¬(k:Int)<(n:Int):=oM;go_wp21;go_roundg (BN.length-(i+1))
       case measure=>omega
       case rel=>exact⟨i+1,by push_cast;rfl,oM,g⟩
      ·have y:(k:Int)<(n:Int):=oM;obtain⟨-,m⟩:=a.zbo i _ _ d b;obtain⟨_,_,_,e,-,s⟩:=m.slice;cases e;obtain⟨Q,rfl,V,y3,y4⟩:=s k A;have M:=zwA wr (.cells #[.string G,vI 0,zN] 48) none;have F:=Ac wr (.cells #[.string G,vI 0,zN] 48);have r:=a.grown M;have q:=Ab g M;go_upto_region 16 with fail;generalize wr.alloc (.cells #[.string G,vI 0,zN] 48)=w2 at r q F ⊢;generalize wr.heap.size=bb at F ⊢;have⟨x0,x1,x2⟩:=Fq F;obtain⟨-,J,L,-,-,-⟩:=r.lw.cells;obtain⟨a3,e,-,U,-⟩:=r.bms.at' b;cases e;go_quiet (fail);obtain⟨l,o⟩:∃l,w2.drewN nq=l:=⟨_,rfl⟩;have N:zG w l:=(Ab q (by rw[<-o];exact Cc _ _));rw[o];go_wp21;go_roundg (n-(k+1))
       case measure=>omega
       case rel=>exact⟨k+1,by push_cast;rfl,oM,N⟩
end
end
section
open Tw Go.Proofs.Tryz
open Go.RowKit
section
variable{B bw N count:Nat}{S:List TypeId}{w w' w0:World}{Z:Nat->Prop}{tx bn bm nu nm:Value}{BN BM NU MV:List Value}
structure zwe:Prop where
 ib:Ew.Hs
 pi:Ew.Ho
 it:Ew.Fs
structure LTx where
 bt:Nat
 br:Nat
 s:ByteArray
 t:Tw.T
 sh:List UInt8
 fo:Nat
def txC(X:List LTx):List Value:=X.flatMap λx=>[.pointer (some ⟨x.bt,0,none⟩),.pointer (some ⟨x.br,0,none⟩)]
structure LTx.At(w:World)(x:LTx):Prop where
 text:Iu w x.bt x.s x.t
 tree:Rl w x.br x.s x.t
 opn:∀n,x.fo<=n->Kf 6100 n x.s.data.toList=some (.Ja x.t x.sh)
theorem Rl.tk{bt:Nat}{s:ByteArray}{t:Tw.T}(h:Rl w bt s t)(e:TK B S w w')(k:[102,273,276].all (λt=>!S.contains t)=true):Rl w' bt s t:=by
 have b:S.contains 102=false/\S.contains 273=false/\S.contains 276=false:=by simpa[and_assoc]using k
 have⟨f,m,l,i,a,j⟩:=h;exact⟨f,m,l,i,{a with tree:=e.cells a.tree b.1,Eh:=Ai a.Eh λg c d=>e.cells d b.2.1,nodes:=Ai a.nodes λg c d=>e.cells d b.2.2},j⟩
theorem LTx.At.tk{x:LTx}(h:x.At w)(a:TK B S w w')(b:(72::Su).all (λt=>!S.contains t)=true)(c:[102,273,276].all (λt=>!S.contains t)=true):x.At w':=⟨h.text.tk a b,h.tree.tk a c,h.opn⟩
theorem LTx.At.grown{x:LTx}(h:x.At w)(a:zG w w'):x.At w':=⟨h.text.grown a,h.tree.grown a,h.opn⟩
structure LW(w0 w:World)(Z:Nat->Prop)(bw:Nat)(tx bn bm nu nm:Value)(X:List LTx)(N:Nat)(count:Nat)(BN BM NU MV:List Value):Prop where
 ls:LS w Z bw tx bn bm nu nm count BN BM NU MV
 texts:w.ownsRow 0 98 2 tx X.length (txC X)
 at':∀x∈X,x.At w
 many:X.length<=20
 Yg:BM.length=BN.length
 small:count<=N/\NU.length<=N/\BN.length<=N
 grown:w0.grownBy w none
 new:w0.heap.size<=bw/\∀v ∈ [tx,bn,bm,nu,nm],∀g,v.ownBlock=some g->w0.heap.size<=g
def Lawful(w0 w:World)(bw:Nat)(X:List LTx)(N:Nat):Prop:=∃tx bn bm nu nm count BN BM NU MV,LW w0 w (λ_=>False) bw tx bn bm nu nm X N count BN BM NU MV
theorem LW.Hv{X:List LTx}{N':Nat}(h:LW w0 w Z bw tx bn bm nu nm X N count BN BM NU MV)(a:zG w w')(b:N<=N'):LW w0 w' Z bw tx bn bm nu nm X N' count BN BM NU MV:=
 ⟨h.ls.grown a,Bs h.texts a,λx c=>(h.at' x c).grown a,h.many,h.Yg,⟨kB h.small.1 b,kB h.small.2.1 b,kB h.small.2.2 b⟩,Ab h.grown a,h.new⟩
theorem LW.zwc{wr wa w9:World}{X:List LTx}{g9 n9 cap9:Nat}(h:LW w0 wr Z bw tx bn bm nu nm X N count BN BM NU MV){x:LTx}(hx:x.At wr)(hX:X.length<20)(ga:zG wr wa)
  (hway:(tx.ownBlock=some g9/\wa.grownBy w9 (some g9))\/(g9=wa.heap.size/\zG wa w9)) (hrow:w9.ownsRow 0 98 2 (sL g9 n9 cap9) (X.length+1) (txC X++[pT x.bt,pT x.br])) :
  LW w0 (w9.setCell (aD bw 0) (sL g9 n9 cap9)) Z bw (sL g9 n9 cap9) bn bm nu nm (X++[x]) N count BN BM NU MV:=by
 have⟨all,L9,out,sc,fr,hsz,hg9⟩:=Jo (j:=0) (v9:=sL g9 n9 cap9) (e:=98) (λhu hc e=>zqz h.texts hu hc e.symm) dZ h.ls.lw ga hway;have hz0:=h.grown.size;have tkk:TK 0 [98,61] wr (w9.setCell (aD bw 0) (sL g9 n9 cap9)):=by
  have ne:∀ {k:Nat},(∀c,wr.heap[k]? ≠ some (.cells c 98 (0,0)))->(∀c,wr.heap[k]? ≠ some (.cells c 61 (0,0)))->k<wr.heap.size->(w9.setCell (aD bw 0) (sL g9 n9 cap9)).heap[k]?=wr.heap[k]? :=λ{k} h1 h2 hk=>out hk (λe=>by subst e;exact h2 _ h.ls.lw) (λe=>by
   have⟨_,c,hc⟩:=Qy h.texts e;exact h1 c hc)
  refine⟨λ{k} hk _=>oM,fr.1,fr.2.1,fr.2.2,by simpa using hsz,λ{k c t m} hc ht=>?_,λ{k o} ho hn=>?_⟩
  ·refine(ne (λc' h'=>?_) (λc' h'=>?_) (zgE.1 hc).1).trans hc
   ·rw[hc]at h';cases h';simp at ht
   ·rw[hc]at h';cases h';simp at ht
  ·exact(ne (λc' h'=>by rw[ho]at h';cases h';exact hn _ _ _ rfl) (λc' h'=>by rw[ho]at h';cases h';exact hn _ _ _ rfl) (zgE.1 ho).1).trans ho
 have H:=h.ls;refine⟨⟨Bu (L9.trans H.lw) _,H.bns.kept λg hg=>?_,H.bms.kept λg hg=>?_,H.Jc.kept λg hg=>?_,H.marks.kept λg hg=>?_,λi v m hv hm=>?_,λi v m hv hm=>?_,H.apart,H.Yi,H.Yg,λg hg=>⟨by have:=(H.Rb g hg).1;simp;omega,(H.Rb g hg).2⟩⟩,?_,λy hy=>?_,by simp;omega,h.Yg,h.small,⟨fr.1.trans h.grown.os,fr.2.1.trans h.grown.tape,fr.2.2.trans h.grown.output,by simp;omega,λk hk _=>?_⟩,h.new.1,λv hv g hg=>?_⟩
 ·have⟨c,hc⟩:=H.bns.blk hg;exact all dZ dZ hc
 ·have⟨c,hc⟩:=H.bms.blk hg;exact all dZ dZ hc
 ·have⟨c,hc⟩:=H.Jc.blk hg;exact all dZ dZ hc
 ·have⟨c,hc⟩:=H.marks.blk hg;exact all dZ dZ hc
 ·have⟨k,h1,h2⟩:=H.zbj i v m hv hm;exact⟨k,h1,h2.zbk λ{g c} _ hc=>all dZ dZ hc⟩
 ·have⟨h1,h2⟩:=H.zbo i v m hv hm;exact⟨h1,h2.Aq λ{g c} _ hc=>all dZ dZ hc⟩
 ·have e:txC (X++[x])=txC X++[pT x.bt,pT x.br]:=by simp[txC]
  rw[e,eA];exact Ai hrow λg c hc=>(sc dZ hc).trans hc
 ·rcases zmA.1 hy with hy|hy
  ·exact(h.at' y hy).tk tkk dZ dZ
  ·rw[xB.1 hy];exact hx.tk tkk dZ dZ
 ·refine(out oM (λe=>by have:=h.new.1;omega) (λe=>?_)).trans (h.grown.block k hk sM)
  have:=h.new.2 tx sM k e;omega
 ·simp[List.mem_cons,List.not_mem_nil,or_false]at hv;rcases hv with rfl|rfl|rfl|rfl|rfl
  ·have e:g9=g:=(by simpa[Value.ownBlock]using hg);subst e;rcases hg9 with e|e
   ·exact h.new.2 tx sM g9 e
   ·omega
  all_goals exact h.new.2 _ sM g hg
theorem zdg(L:zwe){X:List LTx}(h:Lawful w0 w bw X N)(s:ByteArray):
  Calls prog 29 #[pT bw,.string s] w λe w'=>e=.returned (.bool true)/\∃q,Lawful w0 w' bw q N/\X.length<=q.length:=by
 have⟨tx,bn,bm,nu,nm,count,BN,BM,NU,MV,h⟩:=h;have⟨i,Q,b⟩:=zpy s.data.toList;cases Q with
 |fault k p=>
  go_in;go_wp21;go_call zpn L.ib L.pi L.it (b i (znL _)) w as e1 w1 ⟨rfl,hk⟩;have d:=hk.grown;go_wp21;go_call zde b w1 as e1 w2 ⟨hg,rfl⟩;have f:=Ab d hg;go_wp21;go_ret;exact⟨rfl,X,⟨_,_,_,_,_,_,_,_,_,_,h.Hv f (znL _)⟩,znL _⟩
 |Ja t sh=>
  go_in;go_wp21;go_call zp9 L.ib L.pi L.it (b i (znL _)) w as e1 w1 ⟨bt,rfl,m,hg,-⟩;have d:=hg;have y:=m;go_wp21;go_call zde b w1 as e1 w2 ⟨hg,br,rfl,hR,-⟩;have f:=Ab d hg;have a:=h.Hv f (znL _);have z:LTx.At w2 ⟨bt,br,s,t,sh,i⟩:=⟨y.grown hg,hR,b⟩;obtain⟨P,C,rfl⟩:=Ij a.texts;obtain⟨T,-⟩:=a.ls.lw.cells;by_cases m:X.length<20
  ·have D:(X.length:Int)<20:=oM;have l:=zwA w2 (.cells #[pT bt,pT br] 98) none;have x:=Bs a.texts l;have NB:=jE (Ac w2 (.cells #[pT bt,pT br] 98));have H:X.length+1<=maxLen:=(by unfold maxLen;omega);have G:(prog.info? 98).map (λo=>(o.zero,o.size,o.bytes))=some (some (.agg #[.pointer none,.pointer none]),2,16):=kR;have⟨O,F,I,J,M⟩:=info_parts G;go_wp2_with (at_builtin;refine Dy _ rfl _ _ 57 rfl 0 98 O (.agg #[.pointer none,.pointer none]) 2 16 underlying57 F I J M rfl dZ (.slice P X.length C) X.length (txC X) rfl x (aD w2.heap.size 0) 1 1 [pT bt,pT br] rfl rfl NB (by intro u c;simp at c;rcases c with rfl|rfl<;>rfl) dZ H oM (yD _) ?_;intro W U R r n Y;have v:=r;have A:=n;have g:=(Jo (j:=0) (v9:=.pointer none) (e:=98) (λc E e=>zqz a.texts c E e.symm) dZ a.ls.lw l n).2.1.trans a.ls.lw;have z9:=(LwC.cells g).1;have V:R.frozen? (aD bw 0)=false:=eB _ _ _ _ _ g;clear r n g);go_ret;exact⟨rfl,_,⟨_,_,_,_,_,_,_,_,_,_,a.zwc z m l A v⟩,sM⟩
  ·have D:¬(X.length:Int)<20:=oM;go_wp21;go_ret;exact⟨rfl,X,⟨_,_,_,_,_,_,_,_,_,_,a⟩,znL _⟩
end
end
end Go.Proofs.YtckhafpejefbbaaGreatDoor
