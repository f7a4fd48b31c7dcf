import Derived.Test.YtckhafpejefbbaaGreatDoorB35

set_option maxRecDepth 100000
set_option maxHeartbeats 16000000
namespace Go.Proofs.YtckhafpejefbbaaGreatDoor
section
open Go.RowKit
variable{w w' wr wa w9:World}{v m tx bn bm nu nm l nu' nm' mk:Value}{g count j g9 n9 cap9 B K:Nat}{NU MV add BN BM xs:List Value}{Z:Nat->Prop}{e:TypeId}
def RecB(w:World)(v:Value)(m:Value):Prop:=(∃c,v=.slice none 0 c)\/∃g n c,v=.slice (some ⟨g,0,none⟩) n c/\n<=maxLen/\(∃a,w.heap[g]?=some (.cells a 48 (0,0)))/\∀k,k<n->w.cell? ⟨g,k*3,none⟩=some m/\w.cell? ⟨g,k*3+1,none⟩=some (.int .i64 0)/\w.cell? ⟨g,k*3+2,none⟩=some (.slice none 0 0)
theorem RecB.keep(h:RecB w v m)(o:∀ {g:Nat} {c:Array Value},v.ownBlock=some g->w.heap[g]?=some (.cells c 48 (0,0))->w'.heap[g]?=w.heap[g]?):RecB w' v m:=by
 rcases h with h|⟨g,r,c,rfl,q,⟨b,a⟩,n⟩
 ·exact .inl h
 ·have e:w'.heap[g]?=w.heap[g]? :=o rfl a;refine .inr ⟨g,r,c,rfl,q,⟨b,e.trans a⟩,λk p=>?_⟩;obtain⟨d,f,i⟩:=n k p;exact⟨(vD e).trans d,(vD e).trans f,(vD e).trans i⟩
theorem RecI.keep'{m:Int}(h:RecI w v m)(f:∀ {g:Nat} {c:Array Value},v.ownBlock=some g->w.heap[g]?=some (.cells c 3 (0,0))->w'.heap[g]?=w.heap[g]?):RecI w' v m:=by
 rcases h with h|⟨g,o,c,rfl,n,⟨b,a⟩,d⟩
 ·exact .inl h
 ·have e:w'.heap[g]?=w.heap[g]? :=f rfl a;exact .inr ⟨g,o,c,rfl,n,⟨b,e.trans a⟩,λk i=>(vD e).trans (d k i)⟩
theorem RecI.lt{m:Int}(h:RecI w v m)(a:v.ownBlock=some g):g<w.heap.size:=by
 rcases h with⟨c,rfl⟩|⟨b,n,c,rfl,_,⟨f,d⟩,_⟩
 ·simp[Value.ownBlock]at a
 ·have e:b=g:=by simpa[Value.ownBlock]using a
  subst e;exact(zgE.1 d).1
theorem RecB.lt(h:RecB w v m)(a:v.ownBlock=some g):g<w.heap.size:=by
 rcases h with⟨c,rfl⟩|⟨b,n,c,rfl,_,⟨f,d⟩,_⟩
 ·simp[Value.ownBlock]at a
 ·have e:b=g:=by simpa[Value.ownBlock]using a
  subst e;exact(zgE.1 d).1
structure LS(w:World)(Z:Nat->Prop)(bw:Nat)(tx bn bm nu nm:Value)(count:Nat)(BN BM NU MV:List Value):Prop where
 lw:LwC w bw tx bn bm nu nm count
 bns:RowV w 0 45 bn BN
 bms:RowV w 0 9 bm BM
 nums:RowV w 0 33 nu NU
 marks:RowV w 0 3 nm MV
 recI:∀(i:Nat) (v m:Value),NU[i]?=some v->MV[i]?=some m->∃k,m=.int .i64 k/\RecI w v k
 recB:∀(i:Nat) (v m:Value),BN[i]?=some v->BM[i]?=some m->(∃s,m=.string s)/\RecB w v m
 apart:∀v∈NU,∀g,v.ownBlock=some g->nm.ownBlock≠some g
 lenI:MV.length=NU.length
 lenB:BM.length<=BN.length
 zone:∀g,Z g->g<w.heap.size/\nm.ownBlock≠some g/\(∀v∈NU,v.ownBlock≠some g)/\(∀v∈BN,v.ownBlock≠some g)
structure LF(w w':World)(bw:Nat)(R R':List Value):Prop where
 os:w'.os=w.os
 tape:w'.tape=w.tape
 output:w'.output=w.output
 size:w.heap.size<=w'.heap.size
 block:∀ {k:Nat},k<w.heap.size->k≠bw->(∀v∈R,v.ownBlock≠some k)->w'.heap[k]?=w.heap[k]?
 next:∀v∈R',∀g,v.ownBlock=some g->(∃u∈R,u.ownBlock=some g)\/w.heap.size<=g
theorem LF.trans{a b c:World}{bw:Nat}{R q f n:List Value}(h:LF a b bw R q)(k:LF b c bw f n)(o:∀u∈f,∀g,u.ownBlock=some g->(∃x∈R,x.ownBlock=some g)\/a.heap.size<=g):LF a c bw R n where
 os:=k.os.trans h.os
 tape:=k.tape.trans h.tape
 output:=k.output.trans h.output
 size:=kB h.size k.size
 block {i} hi hb hn:=(k.block (aB hi h.size) hb λv d e=>by
  rcases o v d i e with⟨x,t,ex⟩|p
  ·exact hn x t ex
  ·omega).trans (h.block hi hb hn)
 next v d g hg:=by
  rcases k.next v d g hg with⟨u,s,r⟩|p
  ·exact o u s g r
  ·exact .inr (kB h.size p)
theorem LF.zl7{bw:Nat}{c q:Nat}(P:InQ w w' bw tx bn bm nu nm l NU MV c nu' nm' add q):LF w w' bw [bn,bm,nu,nm,l] [bn,bm,nu',nm'] where
 os:=P.frame.os
 tape:=P.frame.tape
 output:=P.frame.output
 size:=P.frame.size
 block {k} h1 h2 h3:=P.frame.block h1 h2 (λe=>h3 nu sM e.symm) (λe=>h3 nm sM e.symm) (λe=>h3 l sM e.symm)
 next v hv g hg:=by
  simp only[zmC,tD,or_false]at hv;rcases hv with rfl|rfl|rfl|rfl
  ·exact .inl ⟨_,sM,hg⟩
  ·exact .inl ⟨_,sM,hg⟩
  ·exact(P.nu' g hg).imp_left λe=>⟨nu,sM,e⟩
  ·exact(P.nm' g hg).imp_left λe=>⟨nm,sM,e⟩
def zf1:List TypeId:=[61,45,9,33,3,48]
theorem LS.ints{bw:Nat}(h:LS w Z bw tx bn bm nu nm count BN BM NU MV)(y:RowV w 0 3 l xs)(A:∀g,l.ownBlock=some g->Z g)
  (P:InP w w' bw tx bn bm nu nm l NU MV (count+1) nu' nm' add):LS w' (λg=>Z g/\l.ownBlock≠some g) bw tx bn bm nu' nm' (count+1) BN BM (NU++add) (MV++List.replicate add.length (vI (-((count+1:Nat):Int)))):=by
 have t:∀ {k:Nat} {c:Array Value} {f:TypeId},f≠61->w.heap[k]?=some (.cells c f (0,0))->k≠bw:=λ{k c f} s b=>by
  rintro rfl
  have:=h.lw;unfold LwC at this;rw[this]at b;cases b;exact s rfl
 have stay:∀ {k:Nat} {c:Array Value} {f:TypeId},f≠33->f≠3->f≠61->w.heap[k]?=some (.cells c f (0,0))->w'.heap[k]?=w.heap[k]? :=λ{k c f} r q s b=>
  P.frame.block (zgE.1 b).1 (t s b) (h.nums.ne r b) (h.marks.ne q b) (y.ne q b)
 have D:∀v∈NU,∃k,RecI w v k:=λv a=>by
  obtain⟨i,n,rfl⟩:=eE a;have z:i<MV.length:=by rw[h.lenI];exact n
  obtain⟨k,_,p⟩:=h.recI i NU[i] MV[i] (fA n) (fA z);exact⟨k,p⟩
 have H:=P.frame.size;refine⟨P.lw,h.bns.kept λg d=>?_,h.bms.kept λg d=>?_,P.nums,P.marks,λi v m a o=>?_,λi v m a o=>?_,λv a g d=>?_,by simp[h.lenI],h.lenB,λg d=>?_⟩
 ·obtain⟨c,b⟩:=h.bns.blk d;exact stay dZ dZ dZ b
 ·obtain⟨c,b⟩:=h.bms.blk d;exact stay dZ dZ dZ b
 ·rcases yB i NU.length with n|n
  ·rw[iA n]at a;rw[iA (by rw[h.lenI];exact n)]at o;obtain⟨k,p,C⟩:=h.recI i v m a o;have x:=dD a;refine⟨k,p,C.keep' λ{g c} d b=>P.frame.block (zgE.1 b).1 (t dZ b) (h.nums.ne dZ b) (λe=>h.apart v x g d e.symm) (λe=>(h.zone g (A g e.symm)).2.2.1 v x d)⟩
  ·rw[fB n]at a;rw[fB (by rw[h.lenI];exact n)]at o
   have:=dD o;rw[List.mem_replicate]at this;exact⟨_,this.2,(P.recs v (dD a)).1⟩
 ·obtain⟨r,q⟩:=h.recB i v m a o;exact⟨r,q.keep λ{g c} _ b=>stay dZ dZ dZ b⟩
 ·rcases zmA.1 a with a|a
  ·intro e;rcases P.nm' g e with e|e
   ·exact h.apart v a g d e
   ·obtain⟨k,p⟩:=D v a
    have:=p.lt d;omega
  ·exact((P.recs v a).2 g d).2
 ·obtain⟨I,E,F,G⟩:=h.zone g d.1;refine⟨oM,λe=>?_,λv a e=>?_,G⟩
  ·rcases P.nm' g e with e|e
   ·exact E e
   ·omega
  ·rcases zmA.1 a with a|a
   ·exact F v a e
   ·rcases((P.recs v a).2 g e).1 with e|e
    ·exact d.2 e
    ·omega
theorem LS.bw{bw:Nat}(h:LS w Z bw tx bn bm nu nm count BN BM NU MV){k:Nat}{c:Array Value}{u:TypeId}{m:Nat×Nat}(b:u≠61)(a:w.heap[k]?=some (.cells c u m)):k≠bw:=by
 rintro rfl
 have:=h.lw;unfold LwC at this;rw[this]at a;cases a;exact b rfl
theorem LS.inZone{bw:Nat}(h:LS w Z bw tx bn bm nu nm count BN BM NU MV){o:Option Nat}(b:w.grownBy w' o)(s:∀g,o=some g->Z g/\∃c,w.heap[g]?=some (.cells c 48 (0,0))):LS w' Z bw tx bn bm nu nm count BN BM NU MV:=by
 have stay:∀ {k:Nat} {c:Array Value} {q:TypeId},q≠48->w.heap[k]?=some (.cells c q (0,0))->w'.heap[k]?=w.heap[k]? :=λ{k c q} x a=>b.block k (zgE.1 a).1 λe=>by
  obtain⟨_,C,r⟩:=s k e.symm;rw[a]at r;cases r;exact x rfl
 have D:=b.size;refine⟨(stay dZ h.lw).trans h.lw,h.bns.kept λg b=>?_,h.bms.kept λg b=>?_,h.nums.kept λg b=>?_,h.marks.kept λg b=>?_,λp v m d n=>?_,λp v m d n=>?_,h.apart,h.lenI,h.lenB,λg b=>?_⟩
 ·obtain⟨c,a⟩:=h.bns.blk b;exact stay dZ a
 ·obtain⟨c,a⟩:=h.bms.blk b;exact stay dZ a
 ·obtain⟨c,a⟩:=h.nums.blk b;exact stay dZ a
 ·obtain⟨c,a⟩:=h.marks.blk b;exact stay dZ a
 ·obtain⟨k,f,i⟩:=h.recI p v m d n;exact⟨k,f,i.keep' λ{g c} _ a=>stay dZ a⟩
 ·obtain⟨f,i⟩:=h.recB p v m d n;exact⟨f,i.keep λ{g c} t a=>b.block g (zgE.1 a).1 λe=>(h.zone g (s g e.symm).1).2.2.2 v (dD d) t⟩
 ·obtain⟨E,y,z,A⟩:=h.zone g b;exact⟨oM,y,z,A⟩
theorem Hp{bw:Nat}{v9:Value}{r:Array Value}(p:∀ {g:Nat} {c:Array Value} {u:TypeId},u≠e->wr.heap[g]?=some (.cells c u (0,0))->some g≠v.ownBlock)(t:e≠61)(i:wr.heap[bw]?=some (.cells r 61 (0,0)))(d:wr.grownBy wa none)
  (h:(v.ownBlock=some g9/\wa.grownBy w9 (some g9))\/(g9=wa.heap.size/\wa.grownBy w9 none)) :
  (∀ {k:Nat} {c:Array Value} {u:TypeId},u≠e->u≠61->wr.heap[k]?=some (.cells c u (0,0))->(w9.setCell (aD bw j) v9).heap[k]?=wr.heap[k]?)/\w9.heap[bw]?=wr.heap[bw]? /\ (∀ {k:Nat},k<wr.heap.size->k≠bw->v.ownBlock≠some k->(w9.setCell (aD bw j) v9).heap[k]?=wr.heap[k]?) /\
  (∀ {k:Nat} {c:Array Value} {u:TypeId},u≠61->w9.heap[k]?=some (.cells c u (0,0))->(w9.setCell (aD bw j) v9).heap[k]?=w9.heap[k]?)/\(w9.os=wr.os/\w9.tape=wr.tape/\w9.output=wr.output)/\wr.heap.size<=w9.heap.size/\(v.ownBlock=some g9\/wr.heap.size<=g9):=by
 have A:=d.size;have stay:∀k,k<wr.heap.size->v.ownBlock≠some k->w9.heap[k]?=wr.heap[k]? :=λk o x=>by
  rcases h with⟨b,a⟩|⟨b,a⟩
  ·exact(a.block k oM (λe=>by cases e;exact x b)).trans (d.block k o sM)
  ·exact(a.block k oM sM).trans (d.block k o sM)
 have y:wr.heap.size<=w9.heap.size:=by rcases h with⟨_,a⟩|⟨_,a⟩<;>(have:=a.size;omega)
 have n:w9.heap[bw]?=wr.heap[bw]? :=stay bw (zgE.1 i).1 (λe=>p (Ne.symm t) i e.symm);have q:∀ {k:Nat} {c:Array Value} {u:TypeId},u≠61->w9.heap[k]?=some (.cells c u (0,0))->(w9.setCell (aD bw j) v9).heap[k]?=w9.heap[k]? :=λ{k c u} z f=>aA w9 (aD bw j) k _ (by rintro rfl;rw[n,i]at f;cases f;exact z rfl);refine⟨λ{k c u} b a f=>?_,n,λ{k} b a s=>(aA w9 (aD bw j) k _ (by simpa using a)).trans (stay k b s),q,?_,y,?_⟩
 ·have:=stay k (zgE.1 f).1 (λe=>p b f e.symm);exact(q a (this.trans f)).trans this
 ·rcases h with⟨_,a⟩|⟨_,a⟩<;>exact⟨a.os.trans d.os,a.tape.trans d.tape,a.output.trans d.output⟩
 ·rcases h with⟨b,_⟩|⟨b,_⟩
  ·exact .inl b
  ·exact .inr oM
theorem LS.pushB{bw:Nat}{lv:Value}(h:LS wr Z bw tx bn bm nu nm count BN BM NU MV)(z:∀g,lv.ownBlock=some g->¬Z g)(s:wr.grownBy wa none)
  (D:(bn.ownBlock=some g9/\wa.grownBy w9 (some g9))\/(g9=wa.heap.size/\wa.grownBy w9 none)) (q:RowV w9 0 45 (sL g9 n9 cap9) (BN++[lv])) :
  LS (w9.setCell (aD bw 1) (sL g9 n9 cap9)) Z bw tx (sL g9 n9 cap9) bm nu nm count (BN++[lv]) BM NU MV/\LF wr (w9.setCell (aD bw 1) (sL g9 n9 cap9)) bw [bn,bm,nu,nm] [sL g9 n9 cap9,bm,nu,nm]:=by
 obtain⟨f,r,E,F,fr,A,x⟩:=Hp (j:=1) (v9:=sL g9 n9 cap9) (λC a=>h.bns.ne C a) dZ h.lw s D;refine⟨⟨Bo (r.trans h.lw) _,q.kept λg b=>?_,h.bms.kept λg b=>?_,h.nums.kept λg b=>?_,h.marks.kept λg b=>?_,λp v m d o=>?_,λp v m d o=>?_,h.apart,h.lenI,by have:=h.lenB;simp;omega,λg b=>?_⟩,⟨fr.1,fr.2.1,fr.2.2,by simpa using A,λ{k} i n t=>E i n (t bn sM),λv d g b=>?_⟩⟩
 ·obtain⟨c,a⟩:=q.blk b;exact F dZ a
 ·obtain⟨c,a⟩:=h.bms.blk b;exact f dZ dZ a
 ·obtain⟨c,a⟩:=h.nums.blk b;exact f dZ dZ a
 ·obtain⟨c,a⟩:=h.marks.blk b;exact f dZ dZ a
 ·obtain⟨k,i,n⟩:=h.recI p v m d o;exact⟨k,i,n.keep' λ{g c} _ a=>f dZ dZ a⟩
 ·have y:p<BN.length:=aB (zlE.1 o).1 h.lenB;rw[iA y]at d;obtain⟨i,n⟩:=h.recB p v m d o;exact⟨i,n.keep λ{g c} _ a=>f dZ dZ a⟩
 ·obtain⟨J,G,H,I⟩:=h.zone g b;refine⟨by simp;omega,G,H,λv d e=>?_⟩;rcases zmA.1 d with d|d
  ·exact I v d e
  ·rw[xB.1 d]at e;exact z g e b
 ·simp only[zmC,tD,or_false]at d;rcases d with rfl|rfl|rfl|rfl
  ·have e:g9=g:=(by simpa[Value.ownBlock]using b);subst e;exact x.imp_left λe=>⟨bn,sM,e⟩
  all_goals exact .inl ⟨_,sM,b⟩
theorem LS.pushM{bw:Nat}(h:LS wr Z bw tx bn bm nu nm count BN BM NU MV)(C:∃s,mk=.string s)(N:BM.length+1<=BN.length)(D:∀v,BN[BM.length]?=some v->RecB wr v mk)(x:wr.grownBy wa none)
  (G:(bm.ownBlock=some g9/\wa.grownBy w9 (some g9))\/(g9=wa.heap.size/\wa.grownBy w9 none)) (r:RowV w9 0 9 (sL g9 n9 cap9) (BM++[mk])) :
  LS (w9.setCell (aD bw 2) (sL g9 n9 cap9)) Z bw tx bn (sL g9 n9 cap9) nu nm count BN (BM++[mk]) NU MV/\LF wr (w9.setCell (aD bw 2) (sL g9 n9 cap9)) bw [bn,bm,nu,nm] [bn,sL g9 n9 cap9,nu,nm]:=by
 obtain⟨i,t,H,I,fr,E,z⟩:=Hp (j:=2) (v9:=sL g9 n9 cap9) (λF a=>h.bms.ne F a) dZ h.lw x G;refine⟨⟨Bo (t.trans h.lw) _,h.bns.kept λg b=>?_,r.kept λg b=>?_,h.nums.kept λg b=>?_,h.marks.kept λg b=>?_,λp v m f d=>?_,λp v m f d=>?_,h.apart,h.lenI,by simp;omega,λg b=>?_⟩,⟨fr.1,fr.2.1,fr.2.2,by simpa using E,λ{k} n o y=>H n o (y bm sM),λv f g b=>?_⟩⟩
 ·obtain⟨c,a⟩:=h.bns.blk b;exact i dZ dZ a
 ·obtain⟨c,a⟩:=r.blk b;exact I dZ a
 ·obtain⟨c,a⟩:=h.nums.blk b;exact i dZ dZ a
 ·obtain⟨c,a⟩:=h.marks.blk b;exact i dZ dZ a
 ·obtain⟨k,n,o⟩:=h.recI p v m f d;exact⟨k,n,o.keep' λ{g c} _ a=>i dZ dZ a⟩
 ·rcases yB p BM.length with q|q
  ·rw[iA q]at d;obtain⟨n,o⟩:=h.recB p v m f d;exact⟨n,o.keep λ{g c} _ a=>i dZ dZ a⟩
  ·rw[fB q]at d;have A:p=BM.length:=by
    have:=(zlE.1 d).1;simp at this;omega
   subst A;simp at d;subst d;exact⟨C,(D v f).keep λ{g c} _ a=>i dZ dZ a⟩
 ·obtain⟨O,J,L,M⟩:=h.zone g b;exact⟨by simp;omega,J,L,M⟩
 ·simp only[zmC,tD,or_false]at f;rcases f with rfl|rfl|rfl|rfl
  ·exact .inl ⟨_,sM,b⟩
  ·have e:g9=g:=(by simpa[Value.ownBlock]using b);subst e;exact z.imp_left λe=>⟨bm,sM,e⟩
  all_goals exact .inl ⟨_,sM,b⟩
def reps(K:Nat)(mk:Value):List Value:=(List.replicate K [mk,.int .i64 0,.slice none 0 0]).flatten
theorem zke(K:Nat)(mk:Value):(reps K mk).length=K*3:=by
 induction K with
 |zero=>rfl
 |succ n ih=>rw[reps,List.replicate_succ,List.flatten_cons,eA,show(List.replicate n [mk,vI 0,zN]).flatten.length=n*3 from ih];simp;omega
theorem Yz(K:Nat)(mk:Value):reps (K+1) mk=reps K mk++[mk,vI 0,zN]:=by simp[reps,List.replicate_succ']
theorem zan:∀(K:Nat) (mk:Value) (k:Nat),k<K->(reps K mk)[k*3]?=some mk/\(reps K mk)[k*3+1]?=some (vI 0)/\(reps K mk)[k*3+2]?=some zN
 |0,_,k,h=>oM
 |K+1,mk,k,h=>by
  have e:reps (K+1) mk=mk :: vI 0 :: zN::reps K mk:=by simp[reps,List.replicate_succ]
  rw[e];cases k with
  |zero=>exact⟨rfl,rfl,rfl⟩
  |succ k=>
   obtain⟨a,b,c⟩:=zan K mk k oM;refine⟨?_,?_,?_⟩
   ·rw[show(k+1)*3=k*3+3 from oM];exact a
   ·rw[show(k+1)*3+1=k*3+1+3 from oM];exact b
   ·rw[show(k+1)*3+2=k*3+2+3 from oM];exact c
theorem Wy{size n cap:Nat}(h:w.ownsRow B e size (sL g n cap) n xs){u:Value}(a:xs[j]?=some u):w.cell? (aD g j)=some u:=by
 rcases h.2 with⟨e,_⟩|⟨k,f,i,e,_,d,_,_,_,c⟩
 ·cases e
 ·cases e;have b:=(zlE.1 a).1;rw[h.1]at b;rw[mB _ _ _ _ _ _ d];rw[<-c,List.getElem?_take_of_lt b]at a;simpa using a
theorem RecB.of_row(h:w.ownsRow B 48 3 v K (reps K mk)):RecB w v mk:=by
 rcases h.2 with⟨a,_⟩|⟨g,d,s,a,_,o,p,q,_⟩
 ·exact .inl ⟨0,a⟩
 ·refine .inr ⟨g,K,d,a,kB p q,⟨_,o⟩,λk r=>?_⟩;rw[a]at h;have b:∀j c,(reps K mk)[j]?=some c->w.cell? (aD g j)=some c:=λj c=>Wy h;obtain⟨f,i,n⟩:=zan K mk k r;refine⟨?_,?_,?_⟩
  ·exact b _ _ f
  ·exact b _ _ i
  ·exact b _ _ n
theorem LS.stepB{r:World}{bw:Nat}{f G:Nat}{p:Option Addr}{t:Nat}(h:LS wr Z bw tx bn bm nu nm count BN BM NU MV)(U:wr.ownsRow 0 48 3 (.slice p K t) K (reps K mk))
  (P:∀(i:Nat) (v m:Value),BN[i]?=some v->BM[i]?=some m->∀g,v.ownBlock=some g->(Value.slice p K t).ownBlock=some g->m=mk/\∀q n c,v=.slice q n c->n<=K) (A:wr.grownBy wa none)
  (F:((Value.slice p K t).ownBlock=some f/\wa.grownBy r (some f))\/(f=wa.heap.size/\wa.grownBy r none)) (O:r.ownsRow 0 48 3 (sL f (K+1) G) (K+1) (reps (K+1) mk)) :
  LS r Z bw tx bn bm nu nm count BN BM NU MV/\LF wr r bw [bn,bm,nu,nm,.slice p K t] [bn,bm,nu,nm,sL f (K+1) G] /\
  ∀(i:Nat) (v m:Value),BN[i]?=some v->BM[i]?=some m->∀g,v.ownBlock=some g->(sL f (K+1) G).ownBlock=some g->m=mk/\∀q n c,v=.slice q n c->n<=K+1:=by
 have a3:=A.size;have a0:wr.heap.size<=r.heap.size:=by rcases F with⟨_,b⟩|⟨_,b⟩<;>(have:=b.size;omega)
 have stay:∀k,k<wr.heap.size->(Value.slice p K t).ownBlock≠some k->r.heap[k]?=wr.heap[k]? :=λk I N=>by
  rcases F with⟨d,b⟩|⟨d,b⟩
  ·exact(b.block k oM (λe=>by cases e;exact N d)).trans (A.block k I sM)
  ·exact(b.block k oM sM).trans (A.block k I sM)
 have blk:∀ {g:Nat},(Value.slice p K t).ownBlock=some g->∃c,wr.heap[g]?=some (.cells c 48 (0,0)):=λ{g} a=>by
  rcases U.2 with⟨d,_⟩|⟨H,Q,R,d,_,b,_⟩
  ·rw[d]at a;simp[Value.ownBlock]at a
  ·rw[d]at a;have e:H=g:=(by simpa[Value.ownBlock]using a);subst e;exact⟨_,b⟩
 have typ:∀ {k:Nat} {c:Array Value} {C:TypeId},C≠48->wr.heap[k]?=some (.cells c C (0,0))->r.heap[k]?=wr.heap[k]? :=λ{k c C} hu o=>stay k (zgE.1 o).1 (λe=>by
  obtain⟨a1,L⟩:=blk e;rw[o]at L;cases L;exact hu rfl)
 have fr:r.os=wr.os/\r.tape=wr.tape/\r.output=wr.output:=by rcases F with⟨_,b⟩|⟨_,b⟩<;>exact⟨b.os.trans A.os,b.tape.trans A.tape,b.output.trans A.output⟩
 have M:(Value.slice p K t).ownBlock=some f\/wr.heap.size<=f:=by
  rcases F with⟨d,_⟩|⟨d,_⟩
  ·exact .inl d
  ·exact .inr oM
 have X:∀(i:Nat) (v m:Value),BN[i]?=some v->BM[i]?=some m->∀g,v.ownBlock=some g->g<wr.heap.size:=λi v m s y g a=>(h.recB i v m s y).2.lt a;refine⟨⟨(typ dZ h.lw).trans h.lw,h.bns.kept λg a=>?_,h.bms.kept λg a=>?_,h.nums.kept λg a=>?_,h.marks.kept λg a=>?_,λi v m s y=>?_,λi v m s y=>?_,h.apart,h.lenI,h.lenB,λg a=>?_⟩,⟨fr.1,fr.2.1,fr.2.2,a0,λ{k} d b T=>stay k d (T _ sM),λv s g a=>?_⟩,λi v m s y g a D=>?_⟩
 ·obtain⟨c,o⟩:=h.bns.blk a;exact typ dZ o
 ·obtain⟨c,o⟩:=h.bms.blk a;exact typ dZ o
 ·obtain⟨c,o⟩:=h.nums.blk a;exact typ dZ o
 ·obtain⟨c,o⟩:=h.marks.blk a;exact typ dZ o
 ·obtain⟨k,d,b⟩:=h.recI i v m s y;exact⟨k,d,b.keep' λ{g c} _ o=>typ dZ o⟩
 ·obtain⟨d,b⟩:=h.recB i v m s y;refine⟨d,?_⟩;by_cases D:v.ownBlock=some f/\(Value.slice p K t).ownBlock=some f
  ·obtain⟨z,x⟩:=P i v m s y f D.1 D.2;subst z;rcases b with b|⟨g,n,c,rfl,Y,⟨J,a2⟩,o⟩
   ·exact .inl b
   ·have e:g=f:=(by simpa[Value.ownBlock]using D.1);subst e;have N:=x _ _ _ rfl;have E:∀j C,(reps (K+1) m)[j]?=some C->r.cell? (aD g j)=some C:=λj C=>Wy O;have V:∃J,r.heap[g]?=some (.cells J 48 (0,0)):=by
     rcases O.2 with⟨d,_⟩|⟨H,Q,R,d,_,b,_⟩
     ·cases d
     ·have e:g=H:=(by simpa[Value.ownBlock]using congrArg Value.ownBlock d);subst e;exact⟨_,b⟩
    refine .inr ⟨g,n,c,rfl,Y,V,λk I=>?_⟩;obtain⟨z,x,S⟩:=zan (K+1) m k oM;refine⟨?_,?_,?_⟩
    ·exact E _ _ z
    ·exact E _ _ x
    ·exact E _ _ S
  ·refine b.keep λ{g c} W o=>?_;have a:=(zgE.1 o).1;rcases F with⟨z,x⟩|⟨z,x⟩
   ·exact(x.block g oM (λe=>by cases e;exact D ⟨W,z⟩)).trans (A.block g a sM)
   ·exact(x.block g oM sM).trans (A.block g a sM)
 ·obtain⟨z1,z2,z3,z4⟩:=h.zone g a;exact⟨oM,z2,z3,z4⟩
 ·simp only[zmC,tD,or_false]at s;rcases s with rfl|rfl|rfl|rfl|rfl
  ·exact .inl ⟨_,sM,a⟩
  ·exact .inl ⟨_,sM,a⟩
  ·exact .inl ⟨_,sM,a⟩
  ·exact .inl ⟨_,sM,a⟩
  ·have e:f=g:=(by simpa[Value.ownBlock]using a);subst e;exact M.imp_left λe=>⟨.slice p K t,sM,e⟩
 ·have e:f=g:=by simpa[Value.ownBlock]using D
  subst e;rcases M with e|e
  ·obtain⟨z,x⟩:=P i v m s y f a e;exact⟨z,λq n c E=>Nat.le_succ_of_le (x q n c E)⟩
  ·have:=X i v m s y f a;omega
end
section
open Tw Go.Proofs.Tryz
open Go.RowKit
variable{w w' a b:World}{Z:Nat->Prop}{bw count B size n k g c:Nat}{tx bn bm nu nm v l:Value}{BN BM NU MV xs R R1:List Value}{e u:TypeId}
theorem LS.sub{Z':Nat->Prop}(h:LS w Z bw tx bn bm nu nm count BN BM NU MV)(f:∀g,Z' g->Z g):LS w Z' bw tx bn bm nu nm count BN BM NU MV:={h with zone:=λg d=>h.zone g (f g d)}
theorem zao(h:w.ownsRow B e size v n xs){cap m:Nat}(r:v=sL g m cap)(u:Value):(w.setCell (aD g k) u).ownsRow B e size v n (xs.set k u)/\w.grownBy (w.setCell (aD g k) u) (some g):=by
 subst r;refine⟨?_,rfl,rfl,rfl,sM,λs _ q=>aA w (aD g k) s _ (by rintro rfl;exact q rfl)⟩;rcases h.2 with⟨e,_⟩|⟨y,t,x,e,d,f,i,j,o,p⟩
 ·cases e
 ·cases e;refine⟨by simpa using h.1,.inr ⟨g,cap,_,rfl,d,Bo f _,i,j,by simpa using o,?_⟩⟩;rw[bE,List.take_set,p]
theorem zkf(h:w.ownsRow B e size v n xs){c:Array Value}{m:Nat×Nat}(j:u≠e)(i:w.heap[g]?=some (.cells c u m)):v.ownBlock≠some g:=λe=>by
 rcases h.2 with⟨d,_⟩|⟨q,o,p,d,_,f,_⟩
 ·rw[d]at e;simp[Value.ownBlock]at e
 ·rw[d]at e;simp[Value.ownBlock]at e;rw[e,i]at f;cases f;exact j rfl
theorem Nn(h:w.ownsRow B e size v n xs)(d:v.ownBlock=some g):B<=g/\∃c,w.heap[g]?=some (.cells c e (0,0)):=by
 rcases h.2 with⟨f,_⟩|⟨i,o,p,f,m,j,_⟩
 ·rw[f]at d;simp[Value.ownBlock]at d
 ·rw[f]at d;have e:i=g:=by simpa[Value.ownBlock]using d
  subst e;exact⟨m,_,j⟩
theorem zkg(h:w.ownsRow B e size v n xs)(q:∀g,v.ownBlock=some g->w'.heap[g]?=w.heap[g]?):w'.ownsRow B e size v n xs:=by
 refine⟨h.1,?_⟩;rcases h.2 with d|⟨f,o,p,d,i,j,m⟩
 ·exact .inl d
 ·exact .inr ⟨f,o,p,d,i,(q f (by rw[d];rfl)).trans j,m⟩
theorem InQ.stay{x t:Value}{i:List Value}{q:Nat}(P:InQ w w' bw tx bn bm nu nm l NU MV c x t i q)(h:LwC w bw tx bn bm nu nm count)(s:RowV w 0 33 nu NU)(r:RowV w 0 3 nm MV)(p:RowV w 0 3 l xs){j:Array Value}(m:u≠33)(f:u≠3)(o:u≠61)(d:w.heap[k]?=some (.cells j u (0,0))):w'.heap[k]?=w.heap[k]? :=
 P.frame.block (zgE.1 d).1 (by rintro rfl;unfold LwC at h;rw[h]at d;cases d;exact o rfl) (s.ne m d) (r.ne f d) (p.ne f d)
theorem zkh(i:Nat)(mk:Value):∀(r:List Value),3<=r.length->(((reps i mk++r).set (i*3) mk).set (i*3+1) (vI 0)).set (i*3+2) zN=reps (i+1) mk++r.drop 3
 |a::b::c::r,_=>by
  have e:=zke i mk;rw[aE _ _ oM,aE _ _ oM,aE _ _ oM,e,Nat.sub_self,show i*3+1-i*3=1 from oM,show i*3+2-i*3=2 from oM,Yz,wA];rfl
 |[],h=>by simp at h
 |[_],h=>by simp at h
 |[_,_],h=>by simp at h
theorem T7{p:Option Addr}(h:w.ownsRow B e size (.slice p n c) n xs){u:Value}(d:xs[k]?=some u):∃g,p=some (aD g 0)/\w.cell? (aD g k)=some u/\w.frozen? (aD g k)=false:=by
 rcases h.2 with⟨_,i⟩|⟨g,m,o,e,q,j,_⟩
 ·have f:=h.1;rw[i,Nat.zero_mul]at f;rw[List.length_eq_zero_iff.1 f]at d;cases d
 ·injection e with e1 _ _;subst e1;refine⟨g,rfl,?_,eB _ _ _ _ _ j⟩;exact Wy h d
theorem zmi:∀(E:List (Tw.T×Value)) (i:Nat) (h:i<E.length),(B9 E)[i*3+2]?=some E[i].2
 |c::cs,0,_=>rfl
 |c::cs,i+1,h=>by
  have:=zmi cs i (by simpa using h);rw[show(i+1)*3+2=(i*3+2)+3 by omega];exact this
theorem zki(E:List (Tw.T×Value)):(B9 E).length=E.length*3:=by
 induction E with
 |nil=>rfl
 |cons c cs ih=>
  have e:B9 (c::cs)=[ug c.1.bname,vI c.1.bpl,c.2]++B9 cs:=rfl;rw[e,eA,ih];simp;omega
theorem LF.more{c:World}(h:LF a b bw R R1){o:Option Nat}(d:b.grownBy c o)(i:∀g,o=some g->(∃u∈R,u.ownBlock=some g)\/a.heap.size<=g):LF a c bw R R1 where
 os:=d.os.trans h.os
 tape:=d.tape.trans h.tape
 output:=d.output.trans h.output
 size:=kB h.size d.size
 block {k} hk hb hn:=(d.block k (aB hk h.size) λe=>by
  rcases i k e.symm with⟨u,j,f⟩|m
  ·exact hn u j f
  ·omega).trans (h.block hk hb hn)
 next:=h.next
theorem LF.with{f:List Value}(h:LF a b bw R f)(l:Value):LF a b bw (R++[l]) (f++[l]) where
 os:=h.os
 tape:=h.tape
 output:=h.output
 size:=h.size
 block hk hb hn:=h.block hk hb λv d=>hn v (eD _ d)
 next v d g hg:=by
  rcases zmA.1 d with d|d
  ·exact(h.next v d g hg).imp_left λ⟨u,i,e⟩=>⟨u,eD _ i,e⟩
  ·exact .inl ⟨v,bD _ d,hg⟩
theorem LS.setCount(h:LS w Z bw tx bn bm nu nm count BN BM NU MV)(c:Nat)(i:v=vI c):LS (w.setCell (aD bw 5) v) Z bw tx bn bm nu nm c BN BM NU MV:=by
 subst i;have keep:∀ {k:Nat} {r:Array Value} {u:TypeId},u≠61->w.heap[k]?=some (.cells r u (0,0))->(w.setCell (aD bw 5) (vI c)).heap[k]?=w.heap[k]? :=λ{k r u} s d=>aA w (aD bw 5) k _ (by simpa using h.bw s d);refine⟨Bo h.lw _,h.bns.kept λg f=>?_,h.bms.kept λg f=>?_,h.nums.kept λg f=>?_,h.marks.kept λg f=>?_,λp v q i o=>?_,λp v q i o=>?_,h.apart,h.lenI,h.lenB,λg f=>⟨by simpa using(h.zone g f).1,(h.zone g f).2⟩⟩
 ·obtain⟨c,d⟩:=h.bns.blk f;exact keep dZ d
 ·obtain⟨c,d⟩:=h.bms.blk f;exact keep dZ d
 ·obtain⟨c,d⟩:=h.nums.blk f;exact keep dZ d
 ·obtain⟨c,d⟩:=h.marks.blk f;exact keep dZ d
 ·obtain⟨k,j,m⟩:=h.recI p v q i o;exact⟨k,j,m.keep' λ{g c} _ d=>keep dZ d⟩
 ·obtain⟨j,m⟩:=h.recB p v q i o;exact⟨j,m.keep λ{g c} _ d=>keep dZ d⟩
theorem LF.setCount(h:LF a b bw R R1)(v:Value):LF a (b.setCell (aD bw 5) v) bw R R1 where
 os:=h.os
 tape:=h.tape
 output:=h.output
 size:=by simpa using h.size
 block {k} hk hb hn:=(aA b (aD bw 5) k _ (by simpa using hb)).trans (h.block hk hb hn)
 next:=h.next
def Pf(e:Tw.T×Value):List Value:=e.1.useS.map λf:Nat=>Value.int .i64 f
def lawR(bn bm nu nm l:Value)(E:List (Tw.T×Value)):List Value:=[bn,bm,nu,nm,l]++E.map (·.2)
theorem zh8{E:List (Tw.T×Value)}(h:LS w Z bw tx bn bm nu nm count BN BM NU MV)(hl:w.ownsRow 0 48 3 l E.length (B9 E))(hu:∀e∈E,RowV w 0 3 e.2 (Pf e))(hpw:E.Pairwise λa b=>∀g,a.2.ownBlock=some g->b.2.ownBlock≠some g)
  (hz:∀g,l.ownBlock=some g->Z g) (hzu:∀e∈E,∀g,e.2.ownBlock=some g->Z g) (hE:E.length<=2000) (hEu:∀e∈E,e.1.useS.length<=1000) (hN:NU.length<=100000000000) (hB:BN.length<=100000000000) (hBM:BM.length=BN.length) (hc:count<=100000000000) :
  Calls prog 70 #[pT bw,l] w λe w'=>e=.returned (.tuple #[])/\∃bn' bm' nu' nm' BN' BM' NU' MV' count',LS w' (λg=>Z g/\l.ownBlock≠some g/\∀e∈E,e.2.ownBlock≠some g) bw tx bn' bm' nu' nm' count' BN' BM' NU' MV'/\LF w w' bw (lawR bn bm nu nm l E) [bn',bm',nu',nm']/\BN'.length=BN.length+4/\BM'.length=BN'.length/\NU'.length=NU.length+4*E.length/\count'=count+E.length+1:=by
 have H:=bV h;have HL:=bV hl;have HU:=bV hu;have HPW:=bV hpw;have HZ:=bV hz;have HZU:=bV hzu;have HEU:=bV hEu;obtain⟨pl,cl,rfl⟩:=Gk hl;have cB:prog.cellsOf 48=3:=kR;have F0:Hid (LF w w bw (lawR bn bm nu nm (.slice pl E.length cl) E) [bn,bm,nu,nm]):=bV ⟨rfl,rfl,rfl,znL _,λ_ _ _=>rfl,λv hv g hg=>.inl ⟨v,by
  simp only[zmC,tD,or_false]at hv;rcases hv with rfl|rfl|rfl|rfl<;>simp[lawR],hg⟩⟩
 clear h hl hu hpw hz hzu hEu
 go_in;go_wp2_with fail;go_loopg[4] E.length (λm iv wr=>∃(i:Nat) (nu' nm':Value) (NU' MV':List Value),iv=vI i/\i+m=E.length/\Hid (LS wr (λg=>Z g/\∀e∈E.take i,e.2.ownBlock≠some g) bw tx bn bm nu' nm' (count+i) BN BM NU' MV')/\Hid (LF w wr bw (lawR bn bm nu nm (.slice pl E.length cl) E) [bn,bm,nu',nm'])/\Hid (wr.ownsRow 0 48 3 (.slice pl E.length cl) E.length (B9 E))/\Hid (∀e∈E.drop i,RowV wr 0 3 e.2 (Pf e))/\NU'.length=NU.length+4*i)
 case atStart=>exact⟨0,nu,nm,NU,MV,rfl,oM,bV (H.o.sub λg hg=>hg.1),F0,HL,bV (by simpa using HU.o),rfl⟩
 case round=>
  obtain⟨i,nu',nm',NU',MV',rfl,him,LR,FR,OR,UR,hNU⟩:=hrel;rcases jD (show i<=E.length by omega)with he|hlt;rotate_left
  ·have hil:(i:Int)<(E.length:Int):=oM;obtain⟨m,rfl⟩:∃m,gk=m+1:=⟨gk-1,oM⟩;obtain⟨gl,rfl,y2,-⟩:=T7 OR.o (zmi E i hlt);have hdr:E.drop i=E[i]::E.drop (i+1):=lD hlt;have hin:E[i]∈E:=List.getElem_mem hlt;have UI:=UR.o E[i] (by rw[hdr];exact List.mem_cons_self);have hpre:∀e∈E.take i,∀g,E[i].2.ownBlock=some g->e.2.ownBlock≠some g:=λe he g hg hh=>by
    obtain⟨a,ha,rfl⟩:=eE he;have ha':a<i:=by
     rw[List.length_take]at ha;omega
    rw[List.getElem_take]at hh;exact List.pairwise_iff_getElem.1 HPW.o a i oM hlt ha' g hh hg
   have hpost:∀e∈E.drop (i+1),∀g,e.2.ownBlock=some g->E[i].2.ownBlock≠some g:=λe he g hg hh=>by
    obtain⟨a,ha,rfl⟩:=eE he;rw[xD]at ha;rw[List.getElem_drop]at hg;exact List.pairwise_iff_getElem.1 HPW.o i (i+1+a) hlt oM oM g hh hg
   have hzi:∀g,E[i].2.ownBlock=some g->Z g/\∀e∈E.take i,e.2.ownBlock≠some g:=λg hg=>⟨HZU.o _ hin g hg,λe he=>hpre e he g hg⟩;have hul:(Pf E[i]).length<=1000:=(by rw[Pf,uD];exact HEU.o _ hin);have IN:=bV (zkd LR.o.lw LR.o.nums LR.o.marks UI hul oM LR.o.lenI oM (λg hg=>(LR.o.zone g (hzi g hg)).2.1));have UI:=bV UI;have HZI:=bV hzi;have HPO:=bV hpost;have HIN:=bV hin;obtain⟨ev,hev⟩:∃ev,E[i].2=ev:=⟨_,rfl⟩;rw[hev]at y2 IN UI HZI HPO;have HEV:=bV hev;obtain⟨pu,cu,rfl⟩:=UI.o.slice;clear hdr hin hpre hpost hzi hul hev;go_wp2_with fail;refine IN.o.mono ?_;rintro e1 w2 ⟨rfl,nu2,nm2,add,P,hadd⟩;have L2:=LR.o.ints UI.o HZI.o P;have F2:=FR.o.trans (LF.zl7 P) (λu hu g hg=>by
    simp only[zmC,tD,or_false]at hu;rcases hu with rfl|rfl|rfl|rfl|rfl
    ·exact FR.o.next _ sM g hg
    ·exact FR.o.next _ sM g hg
    ·exact FR.o.next _ sM g hg
    ·exact FR.o.next _ sM g hg
    ·exact .inl ⟨_,by rw[lawR];exact bD _ (List.mem_map.2 ⟨_,HIN.o,HEV.o⟩),hg⟩)
   have O2:=Ag OR.o λg c hc=>(P.stay LR.o.lw LR.o.nums LR.o.marks UI.o dZ dZ dZ hc).trans hc;have U2:∀e∈E.drop (i+1),RowV w2 0 3 e.2 (Pf e):=λe he=>by
    have he':e∈E.drop i:=(by rw[lD hlt];exact List.mem_cons_of_mem _ he);have hE':e∈E:=List.mem_of_mem_drop he;refine(UR.o e he').kept λg hg=>?_;obtain⟨c,hc⟩:=(UR.o e he').blk hg;refine P.frame.block (zgE.1 hc).1 (LR.o.bw dZ hc) (LR.o.nums.ne dZ hc) (λq=>?_) (λq=>HPO.o e he g hg q.symm);refine(LR.o.zone g ⟨HZU.o e hE' g hg,λe2 he2 q2=>?_⟩).2.1 q.symm;obtain⟨a,ha,rfl⟩:=eE he2;obtain⟨b,hb,rfl⟩:=eE he;rw[List.length_take]at ha;rw[xD]at hb;rw[List.getElem_take]at q2;rw[List.getElem_drop]at hg;exact List.pairwise_iff_getElem.1 HPW.o a (i+1+b) oM oM oM g q2 hg
   have L2:=bV (L2.sub (Z':=λg=>Z g/\∀e∈E.take (i+1),e.2.ownBlock≠some g) λg hg=>⟨⟨hg.1,λe he=>hg.2 e (by rw[cE hlt];exact eD _ he)⟩,λq=>hg.2 E[i] (by rw[cE hlt];exact bD _ (List.mem_singleton_self _)) (by rw[HEV.o];exact q)⟩);have F2:=bV F2;have O2:=bV O2;have U2:=bV U2;have hNU2:(NU'++add).length=NU.length+4*(i+1):=(by rw[eA,hadd];omega);clear P IN LR FR OR UR UI HZI HPO hNU y2;go_wp2_with fail;go_roundg m
   case measure=>omega
   case rel=>exact⟨i+1,_,_,_,_,by push_cast;rfl,oM,L2,F2,O2,U2,hNU2⟩
  ·have hil:¬(i:Int)<(E.length:Int):=oM;subst he;rw[List.take_length]at LR;obtain⟨c1,hc1⟩:∃c1,count+E.length=c1:=⟨_,rfl⟩;rw[hc1]at LR;have hc1l:c1<=200000000000:=oM;obtain⟨-,-,-,-,-,c5⟩:=LR.o.lw.cells;have f5:wr.frozen? (aD bw 5)=false:=eB _ _ _ _ _ LR.o.lw;have L3:=bV (LR.o.setCount (c1+1) (v:=vI ((c1:Int)+1)) (by push_cast;rfl));have F3:=bV (FR.o.setCount (vI ((c1:Int)+1)));have O3:=bV (Ag (Y:=wr.setCell (aD bw 5) (vI ((c1:Int)+1))) OR.o λg c hc=>(aA wr (aD bw 5) g _ (by simpa using LR.o.bw dZ hc)).trans hc);go_upto_region 5 with fail;obtain⟨w3,hw3⟩:∃w3,wr.setCell (aD bw 5) (vI ((c1:Int)+1))=w3:=⟨_,rfl⟩;rw[hw3]at L3 F3 O3;rw[hw3];obtain⟨C,hC⟩:∃C,c1+1=C:=⟨_,rfl⟩;rw[hC]at L3;have HC:=bV (show count+E.length+1=C by omega);have hCl:C<=200000000001:=oM;clear hw3 c5 f5 hC hc1 hc1l LR FR OR UR;obtain⟨-,-,-,-,-,c5⟩:=L3.o.lw.cells;go_wp2_with fail;refine(zh7 C oM w3).mono ?_;rintro e1 w4 ⟨⟨ms,rfl,hms⟩,hg4⟩;obtain⟨sm,hsm⟩:∃sm,ug ms=.string sm:=⟨_,rfl⟩;rw[hsm];have L4:=bV ((L3.o.inZone hg4 (λg hg=>by cases hg)).inZone (zwA w4 (.cells #[.string sm,vI 0,zN] 48) none) (λg hg=>by cases hg));have F4:=bV ((F3.o.more hg4 (λg hg=>by cases hg)).more (zwA w4 (.cells #[.string sm,vI 0,zN] 48) none) (λg hg=>by cases hg));have O4:=bV (A6 (A6 O3.o hg4) (zwA w4 (.cells #[.string sm,vI 0,zN] 48) none));have N4:=bV (Ac w4 (.cells #[.string sm,vI 0,zN] 48));have hz4:w.heap.size<=w4.heap.size:=kB F3.o.size hg4.size;clear hg4 L3 F3 O3 c5 hsm hms;go_upto_region 6 with fail;obtain⟨w5,hw5⟩:∃w5,w4.alloc (.cells #[.string sm,vI 0,zN] 48)=w5:=⟨_,rfl⟩;obtain⟨bx,hbx⟩:∃bx,w4.heap.size=bx:=⟨_,rfl⟩;rw[hw5]at L4 F4 O4 N4;rw[hbx]at N4 hz4;rw[hw5,hbx];clear hw5 hbx;have HGL:Hid (∀g,(Value.slice pl E.length cl).ownBlock=some g->g<w.heap.size/\Z g/\∀e∈E,e.2.ownBlock≠some g):=bV λg hg=>by
    obtain⟨_,c,hc⟩:=Nn HL.o hg;exact⟨(zgE.1 hc).1,HZ.o g hg,λe he q=>(HU.o e he).ne dZ hc q.symm⟩
   clear HL HU HPW HZ HZU HEU H;go_wp2_with fail;go_loopg[6] E.length (λm iv wy=>∃i:Nat,iv=vI i/\i+m=E.length/\Hid (LS wy (λg=>Z g/\∀e∈E,e.2.ownBlock≠some g) bw tx bn bm nu' nm' C BN BM NU' MV')/\Hid (LF w wy bw (lawR bn bm nu nm (.slice pl E.length cl) E) [bn,bm,nu',nm'])/\Hid (wy.ownsRow 0 48 3 (.slice pl E.length cl) E.length (reps i (.string sm)++(B9 E).drop (i*3)))/\Hid (wy.heap[bx]?=some (.cells #[.string sm,vI 0,zN] 48 (0,0))))
   case atStart=>exact⟨0,rfl,oM,L4,F4,bV (by simpa[reps]using O4.o),N4⟩
   case round=>
    clear L4 F4 O4 N4;obtain⟨i,rfl,him2,LY,FY,OY,NY⟩:=hrel;rcases jD (show i<=E.length by omega)with he|hlt;rotate_left
    ·have hil2:(i:Int)<(E.length:Int):=oM;obtain⟨m,rfl⟩:∃m,gk=m+1:=⟨gk-1,oM⟩;have hlen:=OY.o.1;obtain⟨u0,hu0⟩:∃u,(reps i (.string sm)++(B9 E).drop (i*3))[i*3]?=some u:=⟨_,fA (by rw[hlen];omega)⟩;obtain⟨u1,hu1⟩:∃u,(reps i (.string sm)++(B9 E).drop (i*3))[i*3+1]?=some u:=⟨_,fA (by rw[hlen];omega)⟩;obtain⟨u2,hu2⟩:∃u,(reps i (.string sm)++(B9 E).drop (i*3))[i*3+2]?=some u:=⟨_,fA (by rw[hlen];omega)⟩;obtain⟨gl,rfl,a0,af0⟩:=T7 OY.o hu0;obtain⟨_,q,a1,af1⟩:=T7 OY.o hu1;cases q;obtain⟨_,q,a2,af2⟩:=T7 OY.o hu2;cases q;obtain⟨x0,x1,x2⟩:=Eh NY.o;obtain⟨zl,zz⟩:=HGL.o gl rfl;have s1:=zao (k:=i*3) OY.o rfl (.string sm);have s2:=zao (k:=i*3+1) s1.1 rfl (vI 0);have s3:=zao (k:=i*3+2) s2.1 rfl zN;have gg:=Av (Av s1.2 s2.2) s3.2;have R3:=s3.1;rw[zkh i (.string sm) _ (by rw[xD,zki];omega),List.drop_drop]at R3;have L6:=bV (LY.o.inZone gg (λg hg=>by cases hg;exact⟨zz,(Nn OY.o rfl).2⟩));have F6:=bV (FY.o.more gg (λg hg=>by cases hg;exact .inl ⟨sL gl E.length cl,by simp[lawR],rfl⟩));have N6:=bV ((gg.block bx (zgE.1 NY.o).1 (by simp;omega)).trans NY.o);have R6:=bV R3;clear s1 s2 s3 gg R3 hu0 hu1 hu2 hlen LY FY OY NY zz zl;go_wp2_with fail;go_roundg m
     case measure=>omega
     case rel=>exact⟨i+1,by push_cast;rfl,oM,L6,F6,bV (by rw[show(i+1)*3=i*3+3 by omega];exact R6.o),N6⟩
    ·have hil2:¬(i:Int)<(E.length:Int):=oM;subst he;have R7:Hid (wr.ownsRow 0 48 3 (.slice pl E.length cl) (E.length+0) (reps (E.length+0) (.string sm))):=bV (by have:=OY.o;rw[List.drop_eq_nil_of_le (by rw[zki];omega),List.append_nil]at this;exact this);have L7:=bV (LY.o.sub (Z':=λg=>Z g/\(∀e∈E,e.2.ownBlock≠some g)/\(Value.slice pl E.length cl).ownBlock≠some g) λg hg=>⟨hg.1,hg.2.1⟩);have F7:Hid (LF w wr bw (lawR bn bm nu nm (.slice pl E.length cl) E) [bn,bm,nu',nm',.slice pl E.length cl]):=bV ⟨FY.o.os,FY.o.tape,FY.o.output,FY.o.size,FY.o.block,λv hv g hg=>by
      simp only[zmC,tD,or_false]at hv;rcases hv with rfl|rfl|rfl|rfl|rfl
      ·exact FY.o.next _ sM g hg
      ·exact FY.o.next _ sM g hg
      ·exact FY.o.next _ sM g hg
      ·exact FY.o.next _ sM g hg
      ·exact .inl ⟨.slice pl E.length cl,by simp[lawR],hg⟩⟩
     have S7:Hid (∀(i:Nat) (v m:Value),BN[i]?=some v->BM[i]?=some m->∀g,v.ownBlock=some g->(Value.slice pl E.length cl).ownBlock=some g->m=.string sm/\∀q n c,v=.slice q n c->n<=E.length+0):=bV λk v mm hv _ g hg hl=>absurd hg ((LY.o.zone g (HGL.o g hl).2).2.2.2 v (dD hv));have W7:Hid (∀g,(Value.slice pl E.length cl).ownBlock=some g->¬(Z g/\(∀e∈E,e.2.ownBlock≠some g)/\(Value.slice pl E.length cl).ownBlock≠some g)/\g≠bx):=bV λg hg=>⟨λhz=>hz.2.2 hg,by have:=(HGL.o g hg).1;omega⟩;obtain⟨b0,hb0,hw0,hw1,hw2⟩:=info_parts Tryz.infoB;clear LY FY OY;go_wp2_with fail;go_loopg[1,7] 65 (λm lv iv wy=>∃(j:Nat) (bn' bm':Value) (BN' BM':List Value),iv=vI j/\j+m=65/\Hid (LS wy (λg=>Z g/\(∀e∈E,e.2.ownBlock≠some g)/\(Value.slice pl E.length cl).ownBlock≠some g) bw tx bn' bm' nu' nm' C BN' BM' NU' MV')/\Hid (LF w wy bw (lawR bn bm nu nm (.slice pl E.length cl) E) [bn',bm',nu',nm',lv])/\Hid (wy.ownsRow 0 48 3 lv (E.length+j) (reps (E.length+j) (.string sm)))/\Hid (∀g,lv.ownBlock=some g->¬(Z g/\(∀e∈E,e.2.ownBlock≠some g)/\(Value.slice pl E.length cl).ownBlock≠some g)/\g≠bx)/\Hid (∀(i:Nat) (v m:Value),BN'[i]?=some v->BM'[i]?=some m->∀g,v.ownBlock=some g->lv.ownBlock=some g->m=.string sm/\∀q n c,v=.slice q n c->n<=E.length+j)/\Hid (wy.heap[bx]?=some (.cells #[.string sm,vI 0,zN] 48 (0,0)))/\Hid (BM'.length=BN'.length/\BN'.length=BN.length+if j<=3 then j else if j<=64 then 3 else 4))
     case atStart=>exact⟨0,bn,bm,BN,BM,rfl,oM,L7,F7,R7,W7,S7,NY,bV ⟨hBM,rfl⟩⟩
     case round=>
      clear L7 F7 R7 W7 S7 NY;obtain⟨j,bn',bm',BN',BM',rfl,hjm,LSB,FRB,ROW,OWN,SAM,BXB,LEN⟩:=hrel;rcases jD (show j<=65 by omega)with rfl|hlt
      ·go_wp2_with fail;go_end0;exact⟨rfl,bn',bm',nu',nm',BN',BM',NU',MV',C,LSB.o.sub λg hg=>⟨hg.1,hg.2.2,hg.2.1⟩,{FRB.o with next:=λv hv=>FRB.o.next v (eD [_] hv)},by simpa using LEN.o.2,LEN.o.1,hNU,HC.o.symm⟩
      ·obtain⟨pv,cv,rfl⟩:=Gk ROW.o;have hj3:(j:Int)<=64:=oM;obtain⟨m,rfl⟩:∃m,gk=m+1:=⟨gk-1,oM⟩;by_cases hrec:j<3\/j=64
       case' pos=>
        obtain⟨-,d1,-,-,-,-⟩:=LSB.o.lw.cells;obtain⟨pb,cb,rfl⟩:=LSB.o.bns.slice;have hkl:BN'.length<=100000000004:=(by have:=LEN.o.2;split at this<;>(try split at this)<;>omega);have hmx:BN'.length+1<=maxLen:=(by unfold maxLen;omega);have hby:(BN'.length+1)*24<=140737488355328:=oM;have ga:=zwA wr (.cells #[.slice pv (E.length+j) cv] 45) none;have NA:Hid ((wr.alloc (.cells #[.slice pv (E.length+j) cv] 45)).ownsRow 0 45 1 (.slice pb BN'.length cb) BN'.length BN'):=bV (LSB.o.bns.grown ga);have GA:=bV ga;clear ga;have hll:(prog.info? 45).map (λi=>(i.zero,i.size,i.bytes))=some (some zN,1,24):=kR;obtain⟨l0,hl0,hy0,hy1,hy2⟩:=info_parts hll;rcases hrec with hj|hj
        case' inl=>have hj1:(j:Int)<3:=oM
        case' inr=>
         have hj1:¬(j:Int)<3:=oM;have hj2:((j:Int)==64)=true:=by simp;omega
        all_goals
         have HJ:=bV hj;clear hj
        all_goals
         go_wp2_with (at_builtin;refine Dd _ rfl _ _ 58 rfl 0 45 l0 zN 1 24 underlying58 hl0 hy0 hy1 hy2 rfl dZ (.slice pb BN'.length cb) BN'.length BN' rfl NA.o (aD wr.heap.size 0) 1 1 [.slice pv (E.length+j) cv] rfl rfl (H9 _ _ _) (by intro u hu;simp at hu;subst hu;rfl) dZ hmx hby (yD _) ?_;intro g9 cap9 w9 hown9 hway9 hlt9;have O9:=bV hown9;have Y9:=bV hway9;have L9:LwC w9 _ _ _ _ _ _ _:=(Hp (j:=1) (v9:=.pointer none) (λhu hc=>LSB.o.bns.ne hu hc) dZ LSB.o.lw GA.o hway9).2.1.trans LSB.o.lw;have z9:=L9.cells.2.1;have f9:w9.frozen? (aD bw 1)=false:=eB _ _ _ _ _ L9;clear hown9 hway9 L9);have RW9:RowV w9 0 45 (sL g9 (BN'.length+1) cap9) (BN'++[.slice pv (E.length+j) cv]):=by
          have:=O9.o;unfold RowV;rw[eA];exact this
         obtain⟨LB,FB⟩:=LSB.o.pushB (λg hg=>(OWN.o g hg).1) GA.o Y9.o RW9;obtain⟨all9,-⟩:=Hp (j:=1) (v9:=sL g9 (BN'.length+1) cap9) (λhu hc=>LSB.o.bns.ne hu hc) dZ LSB.o.lw GA.o Y9.o;have RB:=Ag ROW.o λg c hc=>(all9 dZ dZ hc).trans hc;have XB:=(all9 dZ dZ BXB.o).trans BXB.o;have FB:=FRB.o.trans (FB.with (.slice pv (E.length+j) cv)) (λu hu g hg=>FRB.o.next u hu g hg);have LB:=bV LB;have FB:=bV FB;have RB:=bV RB;have XB:=bV XB;obtain⟨wb,hwb⟩:∃wb,w9.setCell (aD bw 1) (sL g9 (BN'.length+1) cap9)=wb:=⟨_,rfl⟩;rw[hwb]at LB FB RB XB;rw[hwb];obtain⟨-,-,d2,-,-,-⟩:=LB.o.lw.cells;obtain⟨x0,-,-⟩:=Eh XB.o;clear hwb RW9 O9 Y9 GA NA LSB FRB ROW BXB d1 z9 f9 all9 hmx hby hll hl0 hy0 hy1 hy2;obtain⟨pm,cm,rfl⟩:=LB.o.bms.slice;have hkml:BM'.length<=100000000004:=(by have:=LEN.o.1;omega);have hmx2:BM'.length+1<=maxLen:=(by unfold maxLen;omega);have hby2:(BM'.length+1)*16<=140737488355328:=oM;have hmo:prog.follows .mixedOrders=true:=kR;have hss:(prog.info? 9).map (λi=>(i.zero,i.size,i.bytes))=some (some (.string ⟨#[]⟩),1,16):=kR;obtain⟨s0,hs0,hv0,hv1,hv2⟩:=info_parts hss;refine Er (λW=>W.cell? (aD bx 0)=some (.string sm)) hmo x0 ?_;intro hSd;have gd:wb.grownBy wb.drew none:=Ad (Aa wb);have e2:wb.drew.cell? (aD bw 2)=some (.slice pm BM'.length cm):=d2;obtain⟨wd,hwd⟩:∃wd,wb.drew=wd:=⟨_,rfl⟩;rw[hwd]at hSd gd e2;rw[hwd];clear hwd d2 x0;have ga2:wb.grownBy (wd.alloc (.cells #[.string sm] 9)) none:=Ai gd _;have MA:Hid ((wd.alloc (.cells #[.string sm] 9)).ownsRow 0 9 1 (.slice pm BM'.length cm) BM'.length BM'):=bV (LB.o.bms.grown ga2);have NB:=H9 wd (.string sm) 9;have A0:=(Eh (zbG ga2 XB.o)).1;have A2:(wd.alloc (.cells #[.string sm] 9)).cell? (aD bw 2)=some (.slice pm BM'.length cm):=by
          rw[mB _ _ _ _ _ _ (zbG ga2 LB.o.lw)];rfl
         have GA2:=bV ga2;clear ga2 gd;refine tkH 0 (v:=pT bw) rfl (λW hW=>by go_simp) hSd ?_;simp only[Act.put];refine tkH 1 (v:=pT bw) rfl (λW hW=>by go_simp) hSd ?_;simp only[Act.put];refine tkH 2 (v:=pT bw) rfl (λW hW=>by go_simp) hSd ?_;simp only[Act.put];refine tkH 3 (v:=.pointer (some (aD bw 2))) rfl (λW hW=>by go_simp) hSd ?_;simp only[Act.put];refine tkH 5 (v:=pT bx) rfl (λW hW=>by go_simp) hSd ?_;simp only[Act.put];refine tkH 6 (v:=.string sm) rfl (λW hW=>by go_simp) hSd ?_;simp only[Act.put];refine gE (rs:=[4,7]) kR sM ?_;refine yA rfl (λK hK=>?_) (yA rfl (λK hK=>?_) zA)
         case' _=>
          go_simp;refine hK.out _ _ hSd (λhSd=>?_);clear hK K;refine gE (rs:=[7]) kR sM ?_;refine yA rfl (λK hK=>?_) zA;go_simp;refine hK.out _ _ A0 (λhSd=>?_);clear hK K
         rotate_left
         case' _=>
          go_simp;refine hK.out _ _ A0 (λhSd=>?_);clear hK K;refine gE (rs:=[4]) kR sM ?_;refine yA rfl (λK hK=>?_) zA;go_simp;refine hK.out _ _ A0 (λhSd=>?_);clear hK K
         all_goals
          clear hSd e2;refine gE (rs:=[8]) kR sM ?_;refine yA rfl (λK hK=>?_) zA;rw[mA (by rfl)];refine Jj _ _ _ 30 rfl 0 9 s0 (.string ⟨#[]⟩) 1 16 underlying30 hs0 hv0 hv1 hv2 rfl dZ (.slice pm BM'.length cm) BM'.length BM' rfl MA.o (aD wd.heap.size 0) 1 1 [.string sm] rfl rfl NB (by intro u hu;simp at hu;subst hu;rfl) dZ hmx2 hby2 (yD _) ?_;intro g8 cap8 w8 hown8 hway8 _;obtain⟨all8,L8,-⟩:=Hp (j:=2) (v9:=sL g8 (BM'.length+1) cap8) (λhu hc=>LB.o.bms.ne hu hc) dZ LB.o.lw GA2.o hway8;have L8:LwC w8 _ _ _ _ _ _ _:=L8.trans LB.o.lw;have z8:=L8.cells.2.2.1;have f8:w8.frozen? (aD bw 2)=false:=eB _ _ _ _ _ L8;have RW8:RowV w8 0 9 (sL g8 (BM'.length+1) cap8) (BM'++[.string sm]):=by
           have:=hown8;unfold RowV;rw[eA];exact this
          have hlenB:=LEN.o.1;obtain⟨LC,FC⟩:=LB.o.pushM ⟨sm,rfl⟩ (by rw[eA,hlenB];exact znL _) (λv hv=>by
           rw[hlenB,fB (znL _),Nat.sub_self]at hv;cases hv;exact RecB.of_row RB.o) GA2.o hway8 RW8
          have RC:=Ag RB.o λg c hc=>(all8 dZ dZ hc).trans hc;have XC:=(all8 dZ dZ XB.o).trans XB.o;have y8:w8.cell? (aD bx 0)=some (.string sm):=by
           refine(Eh (t:=48) (a0:=.string sm) (a1:=vI 0) (a2:=zN) ?_).1
           have:=(Hp (j:=2) (v9:=sL g8 (BM'.length+1) cap8) (λhu hc=>LB.o.bms.ne hu hc) dZ LB.o.lw GA2.o hway8);refine(?_:w8.heap[bx]?=wb.heap[bx]?).trans XB.o;have hk:=(zgE.1 XB.o).1;have hz5:=GA2.o.size;rcases hway8 with⟨q1,q2⟩|⟨q1,q2⟩
           ·exact(q2.block bx oM (λq=>by cases q;exact LB.o.bms.ne dZ XB.o q1.symm)).trans (GA2.o.block bx hk sM)
           ·exact(q2.block bx oM sM).trans (GA2.o.block bx hk sM)
          have FC:=FB.o.trans (FC.with (.slice pv (E.length+j) cv)) (λu hu g hg=>FB.o.next u hu g hg);have SC:∀(i:Nat) (v m:Value),(BN'++[.slice pv (E.length+j) cv])[i]?=some v->(BM'++[.string sm])[i]?=some m->∀g,v.ownBlock=some g->(Value.slice pv (E.length+j) cv).ownBlock=some g->m=.string sm/\∀q n c,v=.slice q n c->n<=E.length+j:=λk v mm hv hm g hg hl=>by
           rcases yB k BN'.length with hk|hk
           ·rw[iA hk]at hv;rw[iA oM]at hm;exact SAM.o k v mm hv hm g hg hl
           ·rw[fB hk]at hv;rw[fB oM]at hm;have e0:k=BN'.length:=by
             have:=(zlE.1 hv).1;simp at this;omega
            subst e0;rw[Nat.sub_self]at hv;rw[hlenB,Nat.sub_self]at hm;cases hv;cases hm;exact⟨rfl,λq n c e=>by cases e;exact znL _⟩
          have LC:=bV LC;have FC:=bV FC;have RC:=bV RC;have XC:=bV XC;have SC:=bV SC;clear hown8 hway8 L8 RW8 LB FB RB XB SAM MA NB A0 A2 GA2 all8 hlenB;refine hK.out _ _ y8 (λhSd=>?_);clear hK K;refine gE (rs:=[9]) kR sM ?_;refine yA rfl (λK hK=>?_) zA;go_simp;refine hK.out _ _ y8 (λhSd=>?_);clear hK K;refine gE (rs:=[10]) kR sM ?_;refine yA rfl (λK hK=>?_) zA;go_simp;refine hK.out _ _ y8 (λhSd=>?_);clear hK K;refine gE (rs:=[11]) kR sM ?_;refine yA rfl (λK hK=>?_) zA;go_simp;refine hK.out _ _ (Eh XC.o).1 (λ_=>?_);clear hK K hSd z8 f8 y8;refine iE kR ⟨rfl,?_⟩ _;obtain⟨wc,hwc⟩:∃wc,w8.setCell (aD bw 2) (sL g8 (BM'.length+1) cap8)=wc:=⟨_,rfl⟩;rw[hwc]at LC FC RC XC;rw[hwc];clear hwc;have LSB:=LC;have FRB:=FC;have ROW:=RC;have SAM:=SC;have BXB:=XC;clear LC FC RC SC XC;have LEN2:Hid ((BM'++[Value.string sm]).length=(BN'++[Value.slice pv (E.length+j) cv]).length/\(BN'++[Value.slice pv (E.length+j) cv]).length=BN.length+if j+1<=3 then j+1 else if j+1<=64 then 3 else 4):=bV ⟨by rw[eA,eA,LEN.o.1];rfl,by have:=HJ.o;have:=LEN.o.2;rw[eA,wB];split at this<;>split<;>(try split at this)<;>(try split)<;>omega⟩
       case' neg=>
        have hj1:¬(j:Int)<3:=oM;have hj2:((j:Int)==64)=false:=(by simp;omega);obtain⟨wc,rfl⟩:∃wc,wc=wr:=⟨_,rfl⟩;have LEN2:Hid (BM'.length=BN'.length/\BN'.length=BN.length+if j+1<=3 then j+1 else if j+1<=64 then 3 else 4):=bV ⟨LEN.o.1,by have:=LEN.o.2;split at this<;>split<;>(try split at this)<;>(try split)<;>omega⟩
       all_goals
        have ga5:=zwA wc (.cells #[.string sm,vI 0,zN] 48) none;have GA5:=bV ga5;have hmx5:E.length+j+1<=maxLen:=(by unfold maxLen;omega);have OA5:=bV (A6 ROW.o ga5);have NB5:=jE (Ac wc (.cells #[.string sm,vI 0,zN] 48));obtain⟨x0,x1,x2⟩:=Eh BXB.o;clear ga5;go_wp2_with (at_builtin;refine Dd _ rfl _ _ 45 rfl 0 48 b0 (.agg #[.string ⟨#[]⟩,vI 0,zN]) 3 48 underlying45 hb0 hw0 hw1 hw2 rfl dZ (.slice pv (E.length+j) cv) (E.length+j) (reps (E.length+j) (.string sm)) rfl OA5.o (aD wc.heap.size 0) 1 1 [.string sm,vI 0,zN] rfl rfl NB5 (by intro u hu;simp at hu;rcases hu with rfl|rfl|rfl<;>rfl) dZ hmx5 oM (yD _) ?_;intro g5 cap5 w5 hown5 hway5 hlt5;have O5:=bV hown5;have Y5:=bV hway5;clear hown5 hway5);have RW5:w5.ownsRow 0 48 3 (sL g5 (E.length+j+1) cap5) (E.length+j+1) (reps (E.length+j+1) (.string sm)):=(by rw[Yz];exact O5.o);obtain⟨L5,F5,S5⟩:=LSB.o.stepB ROW.o SAM.o GA5.o Y5.o RW5;have hbx5:w5.heap[bx]?=some (.cells #[.string sm,vI 0,zN] 48 (0,0)):=by
         refine(?_:w5.heap[bx]?=wc.heap[bx]?).trans BXB.o;have hk:=(zgE.1 BXB.o).1;have hz5:=GA5.o.size;rcases Y5.o with⟨q1,q2⟩|⟨q1,q2⟩
         ·exact(q2.block bx oM (λq=>by cases q;exact(OWN.o _ q1).2 rfl)).trans (GA5.o.block bx hk sM)
         ·exact(q2.block bx oM sM).trans (GA5.o.block bx hk sM)
        have own5:∀g,(sL g5 (E.length+j+1) cap5).ownBlock=some g->¬(Z g/\(∀e∈E,e.2.ownBlock≠some g)/\(Value.slice pl E.length cl).ownBlock≠some g)/\g≠bx:=λg hg=>by
         have q:g5=g:=(by simpa[Value.ownBlock]using hg);subst q;have hk:=(zgE.1 BXB.o).1;have hz5:=GA5.o.size;rcases Y5.o with⟨q1,_⟩|⟨q1,_⟩
         ·exact OWN.o _ q1
         ·exact⟨λhz=>by have:=(LSB.o.zone g5 hz).1;omega,oM⟩
        have F5:=bV (FRB.o.trans F5 (λu hu g hg=>FRB.o.next u hu g hg));have L5:=bV L5;have S5:=bV S5;have RW5:=bV RW5;have BX5:=bV hbx5;have OW5:=bV own5;clear O5 Y5 GA5 OA5 NB5 LSB ROW SAM FRB BXB OWN x0 x1 x2 hbx5 own5;go_wp2_with fail;go_roundg m
        case measure=>omega
        case rel=>exact⟨j+1,_,_,_,_,by push_cast;rfl,oM,L5,F5,RW5,OW5,S5,BX5,LEN2⟩
end
section
open Go.Proofs.Tryz
open Go.RowKit
variable{w:World}{v tx bn bm nu nm:Value}{Z:Nat->Prop}{bw count:Nat}{BN BM NU MV:List Value}
theorem RecI.slice{m:Int}(h:RecI w v m):∃p n c,v=.slice p n c/\n<=maxLen/\∀k,k<n->∃g,p=some (aD g 0)/\w.cell? (aD g k)=some (vI m):=by
 rcases h with⟨c,rfl⟩|⟨g,n,c,rfl,d,-,b⟩
 ·exact⟨_,_,_,rfl,yD _,λk a=>oM⟩
 ·exact⟨_,_,_,rfl,d,λk a=>⟨g,rfl,b k a⟩⟩
theorem RecB.slice{m:Value}(h:RecB w v m):∃p n c,v=.slice p n c/\n<=maxLen/\∀k,k<n->∃g,p=some (aD g 0)/\w.cell? (aD g (k*3))=some m/\w.cell? (aD g (k*3+1))=some (vI 0)/\w.cell? (aD g (k*3+2))=some zN:=by
 rcases h with⟨c,rfl⟩|⟨g,n,c,rfl,d,-,b⟩
 ·exact⟨_,_,_,rfl,yD _,λk a=>oM⟩
 ·exact⟨_,_,_,rfl,d,λk a=>⟨g,rfl,b k a⟩⟩
theorem LS.grown{b:World}(h:LS w Z bw tx bn bm nu nm count BN BM NU MV)(a:w.grownBy b none):LS b Z bw tx bn bm nu nm count BN BM NU MV:=h.inZone a (λg a=>by cases a)
theorem zh9(h:LS w Z bw tx bn bm nu nm count BN BM NU MV)(a9:BM.length=BN.length)(aa:NU.length<=1000000000000)(a8:BN.length<=1000000000000):
  Calls prog 31 #[pT bw] w λe a2=>e=.returned (.bool true)/\w.grownBy a2 none:=by
 have ab:=h.lenI;obtain⟨pn,cn,rfl⟩:=h.nums.slice;obtain⟨pm,cm,rfl⟩:=h.marks.slice;obtain⟨pb,cb,rfl⟩:=h.bns.slice;obtain⟨pq,cq,rfl⟩:=h.bms.slice;have H:=bV h;have ac:maxLen=9223372036854775807:=rfl;have a3:prog.cellsOf 48=3:=kR
 go_in;go_wp2_with fail;go_loopg[3] NU.length (λF D wr=>∃i:Nat,D=vI i/\i+F=NU.length/\Hid (w.grownBy wr none))
 case atStart=>exact⟨0,rfl,oM,bV (Aa w)⟩
 case round=>
  obtain⟨i,rfl,a0,b⟩:=hrel;have f:=bV (H.o.grown b.o);obtain⟨-,-,-,V,W,-⟩:=f.o.lw.cells;rcases jD (show i<=NU.length by omega)with y|B;rotate_left
  ·have z:(i:Int)<(NU.length:Int):=oM;have Y:(i:Int)<(MV.length:Int):=oM;obtain⟨v,m⟩:∃v,NU[i]?=some v:=⟨_,fA B⟩;obtain⟨mk,j⟩:∃mk,MV[i]?=some mk:=⟨_,fA oM⟩;obtain⟨k0,rfl,l⟩:=H.o.recI i v mk m j;obtain⟨p,n,c,rfl,hn,-⟩:=l.slice;obtain⟨gn,rfl,-,N,-⟩:=f.o.nums.at' m;obtain⟨gm,rfl,-,-⟩:=f.o.marks.at' j;have q:=bV m;have o:=bV j;go_wp2_with fail;go_loopg[4] n (λG E M=>∃k:Nat,E=vI k/\k+G=n/\Hid (w.grownBy M none))
   case atStart=>exact⟨0,rfl,oM,b⟩
   case round=>
    obtain⟨k,rfl,a1,d⟩:=hrel;have a:=bV (H.o.grown d.o);obtain⟨-,-,-,V,W,-⟩:=a.o.lw.cells;obtain⟨a6,e,-,N,-⟩:=a.o.nums.at' q.o;cases e;obtain⟨a5,e,-,y1,-⟩:=a.o.marks.at' o.o;cases e;rcases jD (show k<=n by omega)with y|C
    ·have A:¬(k:Int)<(n:Int):=oM;go_wp2_with fail;go_roundg (NU.length-(i+1))
     case measure=>omega
     case rel=>exact⟨i+1,by push_cast;rfl,oM,d⟩
    ·have A:(k:Int)<(n:Int):=oM;obtain⟨kk,e,l⟩:=a.o.recI i _ _ q.o o.o;cases e;obtain⟨_,_,_,e,-,x⟩:=l.slice;cases e;obtain⟨X,rfl,y2⟩:=x k C;go_wp2_with fail;go_quiet (fail);obtain⟨g,r⟩:∃g,wr.drewN nq=g:=⟨_,rfl⟩;have s:Hid (w.grownBy g none):=bV (Ab d.o (by rw[<-r];exact Cm _ _));rw[r];go_wp2_with fail;go_roundg (n-(k+1))
     case measure=>omega
     case rel=>exact⟨k+1,by push_cast;rfl,oM,s⟩
  ·have z:¬(i:Int)<(NU.length:Int):=oM;go_wp2_with fail;go_loopg[5] BN.length (λF D wr=>∃i:Nat,D=vI i/\i+F=BN.length/\Hid (w.grownBy wr none))
   case atStart=>exact⟨0,rfl,oM,b⟩
   case round=>
    obtain⟨i,rfl,a0,b⟩:=hrel;have f:=bV (H.o.grown b.o);obtain⟨-,P,Q,-,-,-⟩:=f.o.lw.cells;rcases jD (show i<=BN.length by omega)with y|B
    ·have z:¬(i:Int)<(BN.length:Int):=oM;go_wp2_with fail;go_ret;exact⟨rfl,b.o⟩
    ·have z:(i:Int)<(BN.length:Int):=oM;have Y:(i:Int)<(BM.length:Int):=oM;obtain⟨v,m⟩:∃v,BN[i]?=some v:=⟨_,fA B⟩;obtain⟨mk,j⟩:∃mk,BM[i]?=some mk:=⟨_,fA oM⟩;obtain⟨⟨J,rfl⟩,l⟩:=H.o.recB i v mk m j;obtain⟨p,n,c,rfl,hn,-⟩:=l.slice;obtain⟨gb,rfl,-,N,-⟩:=f.o.bns.at' m;obtain⟨gq,rfl,-,-⟩:=f.o.bms.at' j;have q:=bV m;have o:=bV j;go_wp2_with fail;go_loopg[6] n (λG E M=>∃k:Nat,E=vI k/\k+G=n/\Hid (w.grownBy M none))
     case atStart=>exact⟨0,rfl,oM,b⟩
     case round=>
      obtain⟨k,rfl,a1,d⟩:=hrel;have a:=bV (H.o.grown d.o);obtain⟨-,P,Q,-,-,-⟩:=a.o.lw.cells;obtain⟨a4,e,-,N,-⟩:=a.o.bns.at' q.o;cases e;rcases jD (show k<=n by omega)with y|C
      ·have A:¬(k:Int)<(n:Int):=oM;go_wp2_with fail;go_roundg (BN.length-(i+1))
       case measure=>omega
       case rel=>exact⟨i+1,by push_cast;rfl,oM,d⟩
      ·have A:(k:Int)<(n:Int):=oM;obtain⟨-,l⟩:=a.o.recB i _ _ q.o o.o;obtain⟨_,_,_,e,-,x⟩:=l.slice;cases e;obtain⟨X,rfl,y2,y3,y4⟩:=x k C;have R:=zwA wr (.cells #[.string J,vI 0,zN] 48) none;have I:=Ac wr (.cells #[.string J,vI 0,zN] 48);have t:=bV (a.o.grown R);have s:=bV (Ab d.o R);go_upto_region 16 with fail;obtain⟨L,T⟩:∃L,wr.alloc (.cells #[.string J,vI 0,zN] 48)=L:=⟨_,rfl⟩;obtain⟨O,S⟩:∃O,wr.heap.size=O:=⟨_,rfl⟩;rw[T]at t s I;rw[S]at I;rw[T,S];obtain⟨x0,x1,x2⟩:=Eh I;obtain⟨-,P,Q,-,-,-⟩:=t.o.lw.cells;obtain⟨a7,e,-,y1,-⟩:=t.o.bms.at' o.o;cases e;go_quiet (fail);obtain⟨g,r⟩:∃g,L.drewN nq=g:=⟨_,rfl⟩;have U:Hid (w.grownBy g none):=bV (Ab s.o (by rw[<-r];exact Cm _ _));rw[r];go_wp2_with fail;go_roundg (n-(k+1))
       case measure=>omega
       case rel=>exact⟨k+1,by push_cast;rfl,oM,U⟩
end
section
open Tw Go.Proofs.Tryz
open Go.RowKit
variable{B bw N count:Nat}{S:List TypeId}{w w' w0:World}{Z:Nat->Prop}{tx bn bm nu nm:Value}{BN BM NU MV:List Value}
structure LibO:Prop where
 ib:Said.IndexByte
 pi:Said.ParseInt
 it:Said.ItoaSmall
structure LTx where
 bt:Nat
 br:Nat
 s:ByteArray
 t:Tw.T
 sh:List UInt8
 fo:Nat
def txC(X:List LTx):List Value:=X.flatMap λx=>[.pointer (some ⟨x.bt,0,none⟩),.pointer (some ⟨x.br,0,none⟩)]
structure LTx.At(w:World)(x:LTx):Prop where
 text:TextAt w x.bt x.s x.t
 tree:RTree w x.br x.s x.t
 opn:∀n,x.fo<=n->Ie 6100 n x.s.data.toList=some (.fine x.t x.sh)
theorem RTree.tk{bt:Nat}{s:ByteArray}{t:Tw.T}(h:RTree w bt s t)(e:TK B S w w')(k:[102,273,276].all (λt=>!S.contains t)=true):RTree w' bt s t:=by
 have b:S.contains 102=false/\S.contains 273=false/\S.contains 276=false:=by simpa[and_assoc]using k
 obtain⟨f,m,l,i,a,j⟩:=h;exact⟨f,m,l,i,{a with tree:=e.cells a.tree b.1,toks:=Ag a.toks λg c d=>e.cells d b.2.1,nodes:=Ag a.nodes λg c d=>e.cells d b.2.2},j⟩
theorem LTx.At.tk{x:LTx}(h:x.At w)(a:TK B S w w')(b:(72::Qm).all (λt=>!S.contains t)=true)(c:[102,273,276].all (λt=>!S.contains t)=true):x.At w':=⟨h.text.tk a b,h.tree.tk a c,h.opn⟩
theorem LTx.At.grown{x:LTx}(h:x.At w)(a:w.grownBy w' none):x.At w':=⟨h.text.grown a,h.tree.grown a,h.opn⟩
structure LW(w0 w:World)(Z:Nat->Prop)(bw:Nat)(tx bn bm nu nm:Value)(X:List LTx)(N:Nat)(count:Nat)(BN BM NU MV:List Value):Prop where
 ls:LS w Z bw tx bn bm nu nm count BN BM NU MV
 texts:w.ownsRow 0 98 2 tx X.length (txC X)
 at':∀x∈X,x.At w
 many:X.length<=20
 lenB:BM.length=BN.length
 small:count<=N/\NU.length<=N/\BN.length<=N
 grown:w0.grownBy w none
 new:w0.heap.size<=bw/\∀v ∈ [tx,bn,bm,nu,nm],∀g,v.ownBlock=some g->w0.heap.size<=g
def Lawful(w0 w:World)(bw:Nat)(X:List LTx)(N:Nat):Prop:=∃tx bn bm nu nm count BN BM NU MV,LW w0 w (λ_=>False) bw tx bn bm nu nm X N count BN BM NU MV
theorem LW.grownN{X:List LTx}{N':Nat}(h:LW w0 w Z bw tx bn bm nu nm X N count BN BM NU MV)(a:w.grownBy w' none)(b:N<=N'):LW w0 w' Z bw tx bn bm nu nm X N' count BN BM NU MV:=
 ⟨h.ls.grown a,A6 h.texts a,λx c=>(h.at' x c).grown a,h.many,h.lenB,⟨kB h.small.1 b,kB h.small.2.1 b,kB h.small.2.2 b⟩,Ab h.grown a,h.new⟩
theorem LW.pushT{wr wa w9:World}{X:List LTx}{g9 n9 cap9:Nat}(h:LW w0 wr Z bw tx bn bm nu nm X N count BN BM NU MV){x:LTx}(hx:x.At wr)(hX:X.length<20)(ga:wr.grownBy wa none)
  (hway:(tx.ownBlock=some g9/\wa.grownBy w9 (some g9))\/(g9=wa.heap.size/\wa.grownBy w9 none)) (hrow:w9.ownsRow 0 98 2 (sL g9 n9 cap9) (X.length+1) (txC X++[pT x.bt,pT x.br])) :
  LW w0 (w9.setCell (aD bw 0) (sL g9 n9 cap9)) Z bw (sL g9 n9 cap9) bn bm nu nm (X++[x]) N count BN BM NU MV:=by
 obtain⟨all,L9,out,sc,fr,hsz,hg9⟩:=Hp (j:=0) (v9:=sL g9 n9 cap9) (e:=98) (λhu hc e=>zkf h.texts hu hc e.symm) dZ h.ls.lw ga hway;have hz0:=h.grown.size;have tkk:TK 0 [98,61] wr (w9.setCell (aD bw 0) (sL g9 n9 cap9)):=by
  have ne:∀ {k:Nat},(∀c,wr.heap[k]? ≠ some (.cells c 98 (0,0)))->(∀c,wr.heap[k]? ≠ some (.cells c 61 (0,0)))->k<wr.heap.size->(w9.setCell (aD bw 0) (sL g9 n9 cap9)).heap[k]?=wr.heap[k]? :=λ{k} h1 h2 hk=>out hk (λe=>by subst e;exact h2 _ h.ls.lw) (λe=>by
   obtain⟨_,c,hc⟩:=Nn h.texts e;exact h1 c hc)
  refine⟨λ{k} hk _=>oM,fr.1,fr.2.1,fr.2.2,by simpa using hsz,λ{k c t m} hc ht=>?_,λ{k o} ho hn=>?_⟩
  ·refine(ne (λc' h'=>?_) (λc' h'=>?_) (zgE.1 hc).1).trans hc
   ·rw[hc]at h';cases h';simp at ht
   ·rw[hc]at h';cases h';simp at ht
  ·exact(ne (λc' h'=>by rw[ho]at h';cases h';exact hn _ _ _ rfl) (λc' h'=>by rw[ho]at h';cases h';exact hn _ _ _ rfl) (zgE.1 ho).1).trans ho
 have H:=h.ls;refine⟨⟨Bo (L9.trans H.lw) _,H.bns.kept λg hg=>?_,H.bms.kept λg hg=>?_,H.nums.kept λg hg=>?_,H.marks.kept λg hg=>?_,λi v m hv hm=>?_,λi v m hv hm=>?_,H.apart,H.lenI,H.lenB,λg hg=>⟨by have:=(H.zone g hg).1;simp;omega,(H.zone g hg).2⟩⟩,?_,λy hy=>?_,by simp;omega,h.lenB,h.small,⟨fr.1.trans h.grown.os,fr.2.1.trans h.grown.tape,fr.2.2.trans h.grown.output,by simp;omega,λk hk _=>?_⟩,h.new.1,λv hv g hg=>?_⟩
 ·obtain⟨c,hc⟩:=H.bns.blk hg;exact all dZ dZ hc
 ·obtain⟨c,hc⟩:=H.bms.blk hg;exact all dZ dZ hc
 ·obtain⟨c,hc⟩:=H.nums.blk hg;exact all dZ dZ hc
 ·obtain⟨c,hc⟩:=H.marks.blk hg;exact all dZ dZ hc
 ·obtain⟨k,h1,h2⟩:=H.recI i v m hv hm;exact⟨k,h1,h2.keep' λ{g c} _ hc=>all dZ dZ hc⟩
 ·obtain⟨h1,h2⟩:=H.recB i v m hv hm;exact⟨h1,h2.keep λ{g c} _ hc=>all dZ dZ hc⟩
 ·have e:txC (X++[x])=txC X++[pT x.bt,pT x.br]:=by simp[txC]
  rw[e,eA];exact Ag hrow λg c hc=>(sc dZ hc).trans hc
 ·rcases zmA.1 hy with hy|hy
  ·exact(h.at' y hy).tk tkk dZ dZ
  ·rw[xB.1 hy];exact hx.tk tkk dZ dZ
 ·refine(out oM (λe=>by have:=h.new.1;omega) (λe=>?_)).trans (h.grown.block k hk sM)
  have:=h.new.2 tx sM k e;omega
 ·simp only[zmC,tD,or_false]at hv;rcases hv with rfl|rfl|rfl|rfl|rfl
  ·have e:g9=g:=(by simpa[Value.ownBlock]using hg);subst e;rcases hg9 with e|e
   ·exact h.new.2 tx sM g9 e
   ·omega
  all_goals exact h.new.2 _ sM g hg
theorem Y0(L:LibO){X:List LTx}(h:Lawful w0 w bw X N)(s:ByteArray):
  Calls prog 29 #[pT bw,.string s] w λe w'=>e=.returned (.bool true)/\∃A,Lawful w0 w' bw A N/\X.length<=A.length:=by
 obtain⟨tx,bn,bm,nu,nm,count,BN,BM,NU,MV,h⟩:=h;obtain⟨q,a2,W⟩:=zji s.data.toList;have H:=bV h;have c:=bV W;cases a2 with
 |fault k p=>
  have a5:((k:Int) != (k:Int))=false:=sM;have a7:((p:Int) != (p:Int))=false:=sM
  go_in;go_wp2_with fail;refine(zje L.ib L.pi L.it (c.o q (znL _)) w).mono ?_;rintro o y ⟨rfl,U⟩;have l:=bV U.grown;go_wp2_with fail;refine(Yy c.o y).mono ?_;rintro o d ⟨b,rfl⟩;have m:=bV (Ab l.o b);go_wp2_with fail;go_ret;exact⟨rfl,X,⟨_,_,_,_,_,_,_,_,_,_,H.o.grownN m.o (znL _)⟩,znL _⟩
 |fine t sh=>
  go_in;go_wp2_with fail;refine(zjs L.ib L.pi L.it (c.o q (znL _)) w).mono ?_;rintro o y ⟨g,rfl,r,b,-⟩;have l:=bV b;have G:=bV r;go_wp2_with fail;refine(Yy c.o y).mono ?_;rintro o d ⟨b,f,rfl,O,-⟩;have m:=bV (Ab l.o b);have a:=bV (H.o.grownN m.o (znL _));have I:Hid (LTx.At d ⟨g,f,s,t,sh,q⟩):=bV ⟨G.o.grown b,O,c.o⟩;obtain⟨pt,M,rfl⟩:=Gk a.o.texts;obtain⟨c0,-⟩:=a.o.ls.lw.cells;by_cases r:X.length<20
  ·have P:(X.length:Int)<20:=oM;have a4:=a.o.many;have C:=zwA d (.cells #[pT g,pT f] 98) none;have F:=bV (A6 a.o.texts C);have z:=bV C;have NB:=jE (Ac d (.cells #[pT g,pT f] 98));have V:X.length+1<=maxLen:=(by unfold maxLen;omega);have T:(prog.info? 98).map (λx=>(x.zero,x.size,x.bytes))=some (some (.agg #[.pointer none,.pointer none]),2,16):=kR;obtain⟨i0,R,Y,a0,a1⟩:=info_parts T;go_wp2_with (at_builtin;refine Dd _ rfl _ _ 57 rfl 0 98 i0 (.agg #[.pointer none,.pointer none]) 2 16 underlying57 R Y a0 a1 rfl dZ (.slice pt X.length M) X.length (txC X) rfl F.o (aD d.heap.size 0) 1 1 [pT g,pT f] rfl rfl NB (by intro u i;simp at i;rcases i with rfl|rfl<;>rfl) dZ V oM (yD _) ?_;intro g9 a3 w9 D v a6;have E:=bV D;have J:=bV v;have n:=(Hp (j:=0) (v9:=.pointer none) (e:=98) (λi Q e=>zkf a.o.texts i Q e.symm) dZ a.o.ls.lw z.o v).2.1.trans a.o.ls.lw;have z9:=(LwC.cells n).1;have f9:w9.frozen? (aD bw 0)=false:=eB _ _ _ _ _ n;clear D v n);go_ret;exact⟨rfl,_,⟨_,_,_,_,_,_,_,_,_,_,a.o.pushT I.o r z.o J.o E.o⟩,sM⟩
  ·have P:¬(X.length:Int)<20:=oM;go_wp2_with fail;go_ret;exact⟨rfl,X,⟨_,_,_,_,_,_,_,_,_,_,a.o⟩,znL _⟩
end
section
open Tw Tw.Rf Go.Proofs.Tryz
open Go.RowKit
variable{w w0 w':World}{Z Z':Nat->Prop}{bw count N b lo hi:Nat}{tx bn bm nu nm l a0 a1 v:Value}{BN BM NU MV R':List Value}{X:List LTx}{E:List (Tw.T×Value)}{t:TypeId}{L:List Tw.T}
theorem LS.lists(h:LS w Z bw tx bn bm nu nm count BN BM NU MV)(e:BM.length=BN.length):(∀v∈NU,∀g,v.ownBlock=some g->g<w.heap.size)/\∀v∈BN,∀g,v.ownBlock=some g->g<w.heap.size:=by
 constructor
 ·intro v d g a;obtain⟨i,hi,rfl⟩:=eE d;have c:i<MV.length:=by rw[h.lenI];exact hi
  obtain⟨k,_,f⟩:=h.recI i NU[i] MV[i] (fA hi) (fA c);exact f.lt a
 ·intro v d g a;obtain⟨i,hi,rfl⟩:=eE d;have c:i<BM.length:=by rw[e];exact hi
  exact(h.recB i BN[i] BM[i] (fA hi) (fA c)).2.lt a
theorem LW.zoned(h:LW w0 w Z bw tx bn bm nu nm X N count BN BM NU MV)(d:w.grownBy w' none):LW w0 w' (λg=>w.heap.size<=g/\g<w'.heap.size) bw tx bn bm nu nm X N count BN BM NU MV:=by
 have c:=h.grownN d (znL _);obtain⟨i,j⟩:=h.ls.lists h.lenB;refine{c with ls:={c.ls with zone:=λg f=>⟨f.2,λe=>?_,λv a e=>?_,λv a e=>?_⟩}}
 ·have:=(h.ls.marks.lt g e).2;omega
 ·have:=i v a g e;omega
 ·have:=j v a g e;omega
theorem LF.tk{R:List Value}(F:LF w w' bw R R'){o:Array Value}(q:w.heap[bw]?=some (.cells o 61 (0,0)))(p:∀v∈R,∀g,v.ownBlock=some g->∃c t,w.heap[g]?=some (.cells c t (0,0))/\zf1.contains t=true):TK 0 zf1 w w':=by
 have ne:∀ {k:Nat},(∀c t,zf1.contains t=true->w.heap[k]? ≠ some (.cells c t (0,0)))->k<w.heap.size->w'.heap[k]?=w.heap[k]? :=λ{k} i j=>F.block j (λe=>by subst e;exact i _ _ dZ q) (λv s e=>by
  obtain⟨c,t,d,h⟩:=p v s k e;exact i c t h d)
 refine⟨λ{k} j _=>oM,F.os,F.tape,F.output,F.size,λ{k c t y} d h=>?_,λ{k z} f r=>?_⟩
 ·refine(ne (λn x m a=>?_) (zgE.1 d).1).trans d;rw[d]at a;cases a;rw[h]at m;cases m
 ·exact(ne (λn x _ a=>by rw[f]at a;cases a;exact r _ _ _ rfl) (zgE.1 f).1).trans f
theorem LS.typed(h:LS w Z bw tx bn bm nu nm count BN BM NU MV)(i:w.ownsRow 0 48 3 l E.length (B9 E))(j:∀e∈E,RowV w 0 3 e.2 (Pf e)):∀v∈lawR bn bm nu nm l E,∀g,v.ownBlock=some g->∃c t,w.heap[g]?=some (.cells c t (0,0))/\zf1.contains t=true:=by
 intro v f g d;simp only[lawR,zmA,zmC,tD,or_false,List.mem_map]at f;rcases f with(rfl|rfl|rfl|rfl|rfl)|⟨e,he,rfl⟩
 ·obtain⟨c,a⟩:=h.bns.blk d;exact⟨c,_,a,dZ⟩
 ·obtain⟨c,a⟩:=h.bms.blk d;exact⟨c,_,a,dZ⟩
 ·obtain⟨c,a⟩:=h.nums.blk d;exact⟨c,_,a,dZ⟩
 ·obtain⟨c,a⟩:=h.marks.blk d;exact⟨c,_,a,dZ⟩
 ·obtain⟨_,c,a⟩:=Nn i d;exact⟨c,_,a,dZ⟩
 ·obtain⟨c,a⟩:=(j e he).blk d;exact⟨c,_,a,dZ⟩
theorem LW.lists{n m r q:Value}{N' o:Nat}{f i j s:List Value}(h:LW w0 w Z bw tx bn bm nu nm X N count BN BM NU MV)(D:w.ownsRow 0 48 3 l E.length (B9 E))(p:∀e∈E,RowV w 0 3 e.2 (Pf e))
  (G:∀g,l.ownBlock=some g->w0.heap.size<=g) (H:∀e∈E,∀g,e.2.ownBlock=some g->w0.heap.size<=g) (M:LS w' Z' bw tx n m r q o f i j s) (F:LF w w' bw (lawR bn bm nu nm l E) [n,m,r,q]) (z:i.length=f.length) (A:o<=N'/\j.length<=N'/\f.length<=N') :
  LW w0 w' Z' bw tx n m r q X N' o f i j s:=by
 have tk:=F.tk h.ls.lw (h.ls.typed D p);have J:=h.grown.size;have x:∀v∈lawR bn bm nu nm l E,∀g,v.ownBlock=some g->w0.heap.size<=g:=by
  intro v d g a;simp only[lawR,zmA,zmC,tD,or_false,List.mem_map]at d;rcases d with(rfl|rfl|rfl|rfl|rfl)|⟨e,he,rfl⟩
  ·exact h.new.2 _ sM g a
  ·exact h.new.2 _ sM g a
  ·exact h.new.2 _ sM g a
  ·exact h.new.2 _ sM g a
  ·exact G g a
  ·exact H e he g a
 refine⟨M,Ag h.texts λg c B=>tk.cells B dZ,λP I=>(h.at' P I).tk tk dZ dZ,h.many,z,A,⟨F.os.trans h.grown.os,F.tape.trans h.grown.tape,F.output.trans h.grown.output,kB J F.size,λk C _=>?_⟩,h.new.1,λv d g a=>?_⟩
 ·refine(F.block oM (λe=>by have:=h.new.1;omega) (λv d e=>?_)).trans (h.grown.block k C sM)
  have:=x v d k e;omega
 ·simp only[zmC]at d;rcases d with rfl|d
  ·exact h.new.2 _ sM g a
  ·rcases F.next v (by simpa using d) g a with⟨O,p,y⟩|Q
   ·exact x O p g y
   ·omega
theorem T9{a2 a:Value}(h:w.heap[b]?=some (.cells #[a0,a1,a2,a] t (0,0))):w.cell? (aD b 0)=some a0/\w.cell? (aD b 1)=some a1/\w.cell? (aD b 2)=some a2/\w.cell? (aD b 3)=some a:=by
 refine⟨?_,?_,?_,?_⟩<;>(rw[mB _ _ _ _ _ _ h];rfl)
theorem Ms(h:w.heap[b]?=some (.cells #[a0,a1] t (0,0))):w.cell? (aD b 0)=some a0/\w.cell? (aD b 1)=some a1:=by
 refine⟨?_,?_⟩<;>(rw[mB _ _ _ _ _ _ h];rfl)
theorem LW.sub(h:LW w0 w Z bw tx bn bm nu nm X N count BN BM NU MV)(a:∀g,Z' g->Z g):LW w0 w Z' bw tx bn bm nu nm X N count BN BM NU MV:={h with ls:=h.ls.sub a}
theorem BdAt.slice(h:BdAt w v L):∃p c,v=.slice p L.length c:=by
 obtain⟨E,a,d,_⟩:=h;obtain⟨p,c,e⟩:=Gk d;exact⟨p,c,by rw[e,<-a,uD]⟩
structure BdNew(w:World)(lo hi:Nat)(l:Value)(E:List (Tw.T×Value)):Prop where
 row:w.ownsRow 0 48 3 l E.length (B9 E)
 uses:∀e∈E,RowV w 0 3 e.2 (Pf e)
 pw:E.Pairwise fun a b=>∀g,a.2.ownBlock=some g->b.2.ownBlock≠some g
 atl:∀g,l.ownBlock=some g->lo<=g/\g<hi
 atu:∀e∈E,∀g,e.2.ownBlock=some g->lo<=g/\g<hi
theorem BdNew.of{B:Nat}(h:BdOwn w B v L)(a:w.grownBy w' none):∃E:List (Tw.T×Value),E.map (·.1)=L/\BdNew w' B w.heap.size v E:=by
 obtain⟨E,m,i,n,o⟩:=h;have j:∀e∈E,w.ownsRow B 3 1 e.2 (Pf e).length (Pf e):=λe d=>by
  have:=n e d;rw[Pf,uD];exact this
 refine⟨E,m,⟨A6 (Jf i) a,λe d=>A6 (Jf (j e d)) a,o,λk a=>?_,λe d k a=>?_⟩⟩
 ·obtain⟨f,c,g⟩:=Nn i a;exact⟨f,(zgE.1 g).1⟩
 ·obtain⟨f,c,g⟩:=Nn (j e d) a;exact⟨f,(zgE.1 g).1⟩
theorem BdNew.stays{q:Value}{n:List (Tw.T×Value)}{i:Nat}(h:LW w0 w Z bw tx bn bm nu nm X N count BN BM NU MV)(o:BdNew w lo i l E)(a:BdNew w i hi q n)(y:∀g,i<=g->g<hi->Z g)(F:LF w w' bw (lawR bn bm nu nm l E) R'):BdNew w' i hi q n:=by
 have keep:∀ {g:Nat} {c:Array Value} {m:TypeId},(m=48\/m=3)->w.heap[g]?=some (.cells c m (0,0))->i<=g->g<hi->w'.heap[g]?=w.heap[g]? :=λ{g c m} k d r s=>by
  refine F.block (zgE.1 d).1 (h.ls.bw (by rcases k with rfl|rfl<;>decide) d) (λv p e=>?_);simp only[lawR,zmA,zmC,tD,or_false,List.mem_map]at p;rcases p with(rfl|rfl|rfl|rfl|rfl)|⟨x,hx,rfl⟩
  ·exact h.ls.bns.ne (by rcases k with rfl|rfl<;>decide) d e.symm
  ·exact h.ls.bms.ne (by rcases k with rfl|rfl<;>decide) d e.symm
  ·exact h.ls.nums.ne (by rcases k with rfl|rfl<;>decide) d e.symm
  ·exact(h.ls.zone g (y g r s)).2.1 e
  ·have:=(o.atl g e).2;omega
  ·have:=(o.atu x hx g e).2;omega
 refine⟨zkg a.row λg f=>?_,λe j=>(a.uses e j).kept λg f=>?_,a.pw,a.atl,a.atu⟩
 ·obtain⟨_,c,d⟩:=Nn a.row f;exact keep (.inl rfl) d (a.atl g f).1 (a.atl g f).2
 ·obtain⟨c,d⟩:=(a.uses e j).blk f;exact keep (.inr rfl) d (a.atu e j g f).1 (a.atu e j g f).2
theorem Y1(h:LW w0 w Z bw tx bn bm nu nm X N count BN BM NU MV)(b:BdNew w lo hi l E)(s:∀g,lo<=g->g<hi->Z g)(r:w0.heap.size<=lo)(C:E.length<=300)(x:∀e∈E,e.1.useS.length<=300)(D:N<=100000000000):
  Calls prog 70 #[pT bw,l] w λe w'=>e=.returned (.tuple #[])/\∃f d j i m k o n p,LW w0 w' (λg=>Z g/\¬(lo<=g/\g<hi)) bw tx f d j i X (N+1500) p m k o n/\LF w w' bw (lawR bn bm nu nm l E) [f,d,j,i]:=by
 obtain⟨I,J,M⟩:=h.small;refine(zh8 h.ls b.row b.uses b.pw (λg a=>s g (b.atl g a).1 (b.atl g a).2) (λe c g a=>s g (b.atu e c g a).1 (b.atu e c g a).2) oM (λe c=>kB (x e c) dZ) oM oM h.lenB oM).mono ?_;rintro e w' ⟨rfl,f,d,j,i,m,k,o,n,p,y,q,F,A,G,H⟩;refine⟨rfl,f,d,j,i,m,k,o,n,p,?_,q⟩
 have:=LW.lists (N':=N+1500) h b.row b.uses (λg a=>kB r (b.atl g a).1) (λe c g a=>kB r (b.atu e c g a).1) y q A ⟨oM,oM,oM⟩;exact this.sub λg a=>⟨a.1,λe=>a.2 (b.atl g e),λB z e=>a.2 (b.atu B z g e)⟩
theorem zex(h:Lawful w0 w bw X N)(hN:N<=50000000000){x:LTx}(hx:x∈X):
  Calls prog 42 #[pT bw,.agg #[pT x.bt,pT x.br]] w λe w'=>e=.returned (.bool true)/\Lawful w0 w' bw X (N+3000):=by
 obtain⟨tx,bn,bm,nu,nm,count,BN,BM,NU,MV,h⟩:=h;have hA:=h.at' x hx;obtain⟨bt,br,s,t,sh,fo⟩:=x;obtain⟨body,hop⟩:=zhd (hA.opn fo (znL _));have hnn:=zed (hA.opn fo (znL _));dsimp only at hop hnn;have HOP:=bV hop;have H:=bV h;have g0:=zwA w (.cells #[pT bt,pT br] 98) none;have A1:=bV (hA.grown g0);have nb:=Ac w (.cells #[pT bt,pT br] 98);have hNl:t.binds.length<=300:=by
  have:=(Eo t).length_le;rw[uD]at this;exact kB this hop.small
 have HUL:Hid (∀m∈t.binds,m.useS.length<=300):=bV λm hm=>kB (Ic t m hm).length_le hop.small;have cB:prog.cellsOf 48=3:=kR;clear h hop hA
 go_in;go_upto_region 1 with fail;obtain⟨w1,hw1⟩:∃w1,w.alloc (.cells #[pT bt,pT br] 98)=w1:=⟨_,rfl⟩;obtain⟨bx,hbx⟩:∃bx,w.heap.size=bx:=⟨_,rfl⟩;rw[hw1]at A1 nb g0;rw[hbx]at nb;rw[hw1,hbx];have NB:=bV nb;have G1:=bV g0;obtain⟨x0,x1⟩:=Ms nb;clear hw1 hbx nb g0;go_wp2_with fail;refine(Ob A1.o.text HOP.o hnn).mono ?_;rintro e1 w2 ⟨⟨l1,rfl,hB1⟩,hg2⟩;have B1:=bV hB1;have S2:=bV hg2.size;have G2:=bV (Ab G1.o hg2);have A2:=bV (A1.o.grown hg2);have NB2:=bV (zbG hg2 NB.o);obtain⟨x0,x1⟩:=Ms NB2.o;clear hB1 hg2 NB A1;go_wp2_with fail;refine(Ob A2.o.text HOP.o hnn).mono ?_;rintro e1 w3 ⟨⟨l2,rfl,hB2⟩,hg3⟩;have B2:=bV hB2;have G23:=bV hg3;have G3:=bV (Ab G2.o hg3);have A3:=bV (A2.o.grown hg3);obtain⟨x0,x1⟩:=Ms (zbG hg3 NB2.o);clear hB2 hg3 NB2 A2;go_wp2_with fail;refine(zam A3.o.tree HOP.o).mono ?_;rintro e1 w4 ⟨⟨l3,rfl,hB3⟩,hg4⟩;have G34:=bV hg4;have G4:=bV (Ab G3.o hg4);have C1:=bV (B1.o.at.grown (Ab G23.o hg4));have C2:=bV (B2.o.at.grown hg4);have C3:=bV hB3;obtain⟨p1,k1,rfl⟩:=C1.o.slice;obtain⟨p2,k2,rfl⟩:=C2.o.slice;obtain⟨p3,k3,rfl⟩:=hB3.slice;clear hB3 hg4 A3 x0 x1 G3;go_wp2_with fail;go_loopg[8,9] t.binds.length (λm ok iv wr=>∃i:Nat,ok=.bool true/\iv=vI i/\i+m=t.binds.length/\Hid (w4.grownBy wr none))
 case atStart=>exact⟨0,sM,rfl,oM,bV (Aa w4)⟩
 case round=>
  obtain⟨i,rfl,rfl,him,GR⟩:=hrel;rcases jD (show i<=t.binds.length by omega)with he|hlt
  ·have hil:¬(i:Int)<(t.binds.length:Int):=oM;obtain⟨E1,hE1,D1⟩:=BdNew.of B1.o (Ab (Ab G23.o G34.o) GR.o);obtain⟨E2,hE2,D2⟩:=BdNew.of B2.o (Ab G34.o GR.o);have e1l:E1.length=t.binds.length:=(by rw[<-hE1,uD]);have e2l:E2.length=t.binds.length:=(by rw[<-hE2,uD]);have u1:∀e∈E1,e.1.useS.length<=300:=λe he=>HUL.o _ (by rw[<-hE1];exact List.mem_map_of_mem he);have u2:∀e∈E2,e.1.useS.length<=300:=λe he=>HUL.o _ (by rw[<-hE2];exact List.mem_map_of_mem he);have H5:=H.o.zoned (Ab G4.o GR.o);have z1:=G1.o.size;have z2:=S2.o;have z3:=G23.o.size;have z4:=G34.o.size;have z5:=GR.o.size;have z0:=H.o.grown.size;have LN:=bV (Y1 H5 D1 (λg q1 q2=>⟨oM,oM⟩) oM oM u1 oM);have H5:=bV H5;have D1:=bV D1;have D2:=bV D2;have U2:=bV u2;have Z25:=bV (show w0.heap.size<=w2.heap.size/\w.heap.size<=w2.heap.size/\w3.heap.size<=wr.heap.size/\w1.heap.size<=w2.heap.size from⟨oM,oM,oM,oM⟩);clear hE1 hE2 u1 u2 z0 z1 z2 z3 z4 z5 C1 C2 C3 B1 B2;go_wp2_with fail;refine LN.o.mono ?_;rintro e1 w6 ⟨rfl,bn',bm',nu',nm',BN',BM',NU',MV',count',hL6,hF6⟩;have D6:=BdNew.stays H5.o D1.o D2.o (λg q1 q2=>⟨by have:=Z25.o;omega,by have:=Z25.o;omega⟩) hF6;have LN6:=bV (Y1 hL6 D6 (λg q1 q2=>⟨⟨by have:=Z25.o;omega,by have:=Z25.o;omega⟩,oM⟩) (by have:=Z25.o;omega) oM U2.o oM);clear hF6 hL6 D6 LN D1 D2 H5;go_wp2_with fail;refine LN6.o.mono ?_;rintro e1 w7 ⟨rfl,bn7,bm7,nu7,nm7,BN7,BM7,NU7,MV7,count7,hL7,-⟩;have H7:=bV hL7;clear hL7 LN6;go_wp2_with fail;go_ret;exact⟨rfl,_,_,_,_,_,_,_,_,_,_,(H7.o.sub λg hg=>hg.elim).grownN (Aa _) oM⟩
  ·have hil:(i:Int)<(t.binds.length:Int):=oM;obtain⟨m,rfl⟩:∃m,gk=m+1:=⟨gk-1,oM⟩;obtain⟨b,hb⟩:∃b,t.binds[i]?=some b:=⟨_,fA hlt⟩;have hbu:=HUL.o b (dD hb);obtain⟨g1,_,v1,q,n1,a1,r1,us1⟩:=C1.o.get hb;cases q;obtain⟨g2,_,v2,q,n2,a2,r2,us2⟩:=C2.o.get hb;cases q;obtain⟨g3,_,v3,q,n3,a3,r3,us3⟩:=C3.o.get hb;cases q;obtain⟨s1,y1,rfl,f1⟩:=us1.get;obtain⟨s2,y2,rfl,f2⟩:=us2.get;obtain⟨s3,y3,rfl,f3⟩:=us3.get;simp only[ug]at n1 n2 n3;have CL:Hid (∀W,w4.grownBy W none->(W.cell? (aD g1 (i*3))=some (.string ⟨b.bname.toArray⟩)/\W.cell? (aD g1 (i*3+1))=some (vI b.bpl)/\W.cell? (aD g1 (i*3+2))=some (.slice s1 b.useS.length y1))/\(W.cell? (aD g2 (i*3))=some (.string ⟨b.bname.toArray⟩)/\W.cell? (aD g2 (i*3+1))=some (vI b.bpl)/\W.cell? (aD g2 (i*3+2))=some (.slice s2 b.useS.length y2))/\W.cell? (aD g3 (i*3))=some (.string ⟨b.bname.toArray⟩)/\W.cell? (aD g3 (i*3+1))=some (vI b.bpl)/\W.cell? (aD g3 (i*3+2))=some (.slice s3 b.useS.length y3)):=bV λW hW=>⟨⟨cell_kept n1 hW sM,cell_kept a1 hW sM,cell_kept r1 hW sM⟩,⟨cell_kept n2 hW sM,cell_kept a2 hW sM,cell_kept r2 hW sM⟩,cell_kept n3 hW sM,cell_kept a3 hW sM,cell_kept r3 hW sM⟩;have FF:Hid (∀(k f:Nat),b.useS[k]?=some f->(∃g,s1=some (aD g 0)/\w4.cell? (aD g k)=some (vI f))/\(∃g,s2=some (aD g 0)/\w4.cell? (aD g k)=some (vI f))/\∃g,s3=some (aD g 0)/\w4.cell? (aD g k)=some (vI f)):=bV λk f hf=>⟨f1 k f hf,f2 k f hf,f3 k f hf⟩;clear n1 n2 n3 a1 a2 a3 r1 r2 r3 us1 us2 us3 f1 f2 f3 hb;obtain⟨⟨n1,a1,r1⟩,-,n3,a3,r3⟩:=CL.o _ GR.o;go_wp2_with fail;go_quiet (fail);obtain⟨W2,hW2⟩:∃W2,wr.drewN nq=W2:=⟨_,rfl⟩;have G5:Hid (w4.grownBy W2 none):=bV (Ab GR.o (by rw[<-hW2];exact Cm _ _));rw[hW2];clear hW2 n1 n3 a1 a3 r1 r3 GR;obtain⟨-,⟨n2,a2,r2⟩,n3,a3,r3⟩:=CL.o _ G5.o;go_wp2_with fail;go_quiet (fail);obtain⟨W3,hW3⟩:∃W3,W2.drewN nq=W3:=⟨_,rfl⟩;have G6:Hid (w4.grownBy W3 none):=bV (Ab G5.o (by rw[<-hW3];exact Cm _ _));rw[hW3];clear hW3 n2 n3 a2 a3 r2 r3 G5;go_wp2_with fail;go_loopg[8,10] b.useS.length (λm2 ok kv wy=>∃k:Nat,ok=.bool true/\kv=vI k/\k+m2=b.useS.length/\Hid (w4.grownBy wy none))
   case atStart=>exact⟨0,sM,rfl,oM,G6⟩
   case round=>
    obtain⟨k,rfl,rfl,hkm,GY⟩:=hrel;obtain⟨⟨-,-,r1⟩,⟨-,-,r2⟩,-,-,r3⟩:=CL.o _ GY.o;rcases jD (show k<=b.useS.length by omega)with he|hlt2
    ·have hkl:¬(k:Int)<(b.useS.length:Int):=oM;go_wp2_with fail;go_roundg m
     case measure=>omega
     case rel=>exact⟨i+1,rfl,by push_cast;rfl,oM,GY⟩
    ·have hkl:(k:Int)<(b.useS.length:Int):=oM;obtain⟨f,hf⟩:∃f,b.useS[k]?=some f:=⟨_,fA hlt2⟩;obtain⟨⟨q1,rfl,f1⟩,⟨q2,rfl,f2⟩,q3,rfl,f3⟩:=FF.o k f hf;have f1:=cell_kept f1 GY.o sM;have f2:=cell_kept f2 GY.o sM;have f3:=cell_kept f3 GY.o sM;clear hf;go_wp2_with fail;go_quiet (fail);obtain⟨W4,hW4⟩:∃W4,wr.drewN nq=W4:=⟨_,rfl⟩;have G7:Hid (w4.grownBy W4 none):=bV (Ab GY.o (by rw[<-hW4];exact Cm _ _));rw[hW4];clear hW4 f1 f2 f3 r1 r2 r3 GY;go_wp2_with fail;go_roundg (b.useS.length-(k+1))
     case measure=>omega
     case rel=>exact⟨k+1,sM,by push_cast;rfl,oM,G7⟩
end
section
open Tw Go.Proofs.Tryz
open Go.RowKit
variable{w0 w:World}{bw N:Nat}{X:List LTx}{on at':Int}
theorem zia(c:Int)(n:Nat)(g :-9223372036854775808<=c)(h:c<=9223372036854775807)(b:0<n)(k:n<=1000000):
  ∃r:Nat,r<n/\∀w:World,Calls prog 41 #[vI c,vI n] w λe f=>e=.returned (vI r)/\w=f:=by
 have l:((n:Int)==0)=false:=by simp;omega
 have j:(n:Int)≠0:=oM;by_cases i:c<0
 ·obtain⟨r,d,a⟩:=zbh (-(c+1)) n oM b;rw[Int.neg_tmod]at d;refine⟨r,a,λw=>?_⟩
  go_in;go_wp2_with fail;go_ret;exact⟨rfl,rfl⟩
 ·obtain⟨r,d,a⟩:=zbh c n oM b;refine⟨r,a,λw=>?_⟩
  go_in;go_wp2_with fail;go_ret;exact⟨rfl,rfl⟩
theorem zkj:∀(X:List LTx) (i:Nat) (h:i<X.length),(txC X)[i*2]?=some (.pointer (some ⟨X[i].bt,0,none⟩))/\(txC X)[i*2+1]?=some (.pointer (some ⟨X[i].br,0,none⟩))
 |c::cs,0,_=>⟨rfl,rfl⟩
 |c::cs,i+1,h=>by
  have:=zkj cs i (by simpa using h);rw[show(i+1)*2=(i*2)+2 by omega,show i*2+2+1=(i*2+1)+2 by omega];exact this
theorem Lawful.grown{a:World}{N':Nat}(h:Lawful w0 w bw X N)(c:w.grownBy a none)(b:N<=N'):Lawful w0 a bw X N':=by
 obtain⟨n,j,i,m,l,k,e,d,g,f,h⟩:=h;exact⟨_,_,_,_,_,_,_,_,_,_,h.grownN c b⟩
theorem zkk{b:Nat}{l:List UInt8}{t:Tw.T}{sh:List UInt8}(h:∀n,b<=n->Ie 6100 n l=some (.fine t sh)):∃c a,t.freeS []=none/\Ae t .nil=some c/\c<=2000/\ofS b t=some (some a.shown)/\Most t a:=by
 obtain⟨_,_,_,_,_,o⟩:=Kk (h b (znL _));obtain⟨_,g,⟨c,e,f⟩,i⟩:=Qy o;obtain⟨q,r,j,k⟩:=Zt e f;obtain⟨_,_,_,_,_,p⟩:=Kk (h (max b q) (Nat.le_max_left _ _));have d:=(Qy p).2.2.2;rw[j _ (Nat.le_max_right _ _)]at d;rcases k with⟨rfl,_⟩|⟨a,rfl,m⟩
 ·cases d
 ·cases d;exact⟨c,a,g,e,f,i,m⟩
def zk2(w0:World)(bw:Nat)(X:List LTx)(N:Nat)(e:Ending)(b:World):Prop:=e=.returned (.bool true)/\∃a,Lawful w0 b bw a (N+3000)/\X.length<=a.length
theorem zey(L:LibO)(h:Lawful w0 w bw X N)(s:ByteArray):
  Calls prog 30 #[pT bw,.agg #[vI 1,vI on,vI at',.string s]] w (zk2 w0 bw X N):=by
 have i:=zwA w (.cells #[vI 1,vI on,vI at',.string s] 65) none;have H:=bV (h.grown i (znL _));have a:=Ac w (.cells #[vI 1,vI on,vI at',.string s] 65)
 go_in;go_upto_region 1 with fail;obtain⟨e,d⟩:∃e,w.alloc (.cells #[vI 1,vI on,vI at',.string s] 65)=e:=⟨_,rfl⟩;obtain⟨b,c⟩:∃b,w.heap.size=b:=⟨_,rfl⟩;rw[d]at H a;rw[c]at a;rw[d,c];obtain⟨l,m,n,o⟩:=T9 a;go_wp2_with fail;refine(Y0 L H.o s).mono ?_;rintro p q ⟨rfl,g,j,k⟩;have f:=bV j;go_wp2_with fail;go_ret;exact⟨rfl,g,f.o.grown (Aa _) oM,k⟩
theorem Y2(L:LibO)(h:Lawful w0 w bw X N)(hN:N<=50000000000){k:Int}(s:ByteArray)(hk:k<=4)(ho1 :-9223372036854775808<=on)(ho2:on<=9223372036854775807):
  Calls prog 30 #[pT bw,.agg #[vI k,vI on,vI at',.string s]] w (zk2 w0 bw X N):=by
 by_cases hk1:k=1
 ·subst hk1;exact zey L h s
 have hk1b:(k==1)=false:=by simpa using hk1
 have g0:=zwA w (.cells #[vI k,vI on,vI at',.string s] 65) none;obtain⟨tx,bn,bm,nu,nm,count,BN,BM,NU,MV,h⟩:=h;have H:=bV (h.grownN g0 (znL _));have nb:=Ac w (.cells #[vI k,vI on,vI at',.string s] 65);obtain⟨pt,ct,rfl⟩:=Gk h.texts;have hXm:=h.many
 go_in;go_upto_region 1 with fail;obtain⟨w1,hw1⟩:∃w1,w.alloc (.cells #[vI k,vI on,vI at',.string s] 65)=w1:=⟨_,rfl⟩;obtain⟨bo,hbo⟩:∃bo,w.heap.size=bo:=⟨_,rfl⟩;rw[hw1]at H nb;rw[hbo]at nb;rw[hw1,hbo];have NB:=bV nb;obtain⟨c0,c1,c2,c3⟩:=T9 nb;obtain⟨t0,-⟩:=H.o.ls.lw.cells;by_cases hX:X.length=0
 ·have hXb:((X.length:Int)==0)=true:=by simp[hX]
  go_wp2_with fail;go_ret;exact⟨rfl,X,⟨_,_,_,_,_,_,_,_,_,_,H.o.grownN (Aa _) oM⟩,znL _⟩
 ·have hXb:((X.length:Int)==0)=false:=by rw[beq_eq_false_iff_ne];omega
  obtain⟨r,hr,hpick⟩:=zia on X.length ho1 ho2 oM oM;have HP:=bV hpick;go_wp2_with fail;go_quiet (first|(go_at_call 41;refine Calls.quiet_of_same ((uh HP _).mono λ_ _ ⟨he,hw⟩=>⟨he,hw.symm⟩)));obtain⟨w2,hw2⟩:∃w2,w1.drewN nq=w2:=⟨_,rfl⟩;have g2:w1.grownBy w2 none:=by rw[<-hw2];exact Cm _ _
  rw[hw2];obtain⟨a1,a2⟩:=zkj X r hr;have H2:=bV (H.o.grownN g2 (znL _));have NB2:=bV (zbG g2 NB.o);obtain⟨gt,rfl,y0,-⟩:=T7 H2.o.texts a1;obtain⟨_,q,y1,-⟩:=T7 H2.o.texts a2;cases q;obtain⟨t0,-⟩:=H2.o.ls.lw.cells;have hri:(r:Int)<(X.length:Int):=oM;have cT:prog.cellsOf 98=2:=kR;obtain⟨x,hx⟩:∃x,X[r]=x:=⟨_,rfl⟩;have hxm:x∈X:=by rw[<-hx];exact List.getElem_mem hr
  rw[hx]at y0 y1;have g3:=zwA w2 (.cells #[pT x.bt,pT x.br] 98) none;have H3:=bV (H2.o.grownN g3 (znL _));have n3:=Ac w2 (.cells #[pT x.bt,pT x.br] 98);have NB3:=bV (zbG g3 NB2.o);go_upto_region 7 with fail;obtain⟨w3,hw3⟩:∃w3,w2.alloc (.cells #[pT x.bt,pT x.br] 98)=w3:=⟨_,rfl⟩;obtain⟨bx,hbx⟩:∃bx,w2.heap.size=bx:=⟨_,rfl⟩;rw[hw3]at H3 n3 NB3;rw[hbx]at n3;rw[hw3,hbx];have N3:=bV n3;obtain⟨x0,x1⟩:=Ms n3;obtain⟨c0,c1,c2,c3⟩:=T9 NB3.o;have AX:=bV (H3.o.at' x hxm);by_cases hk2:k=2
  ·subst hk2;go_wp2_with fail;refine(zdz AX.o.text).mono ?_;rintro e1 w4 ⟨rfl,rfl⟩;obtain⟨_,_,_,_,hRT,_⟩:=AX.o.tree;obtain⟨y0,-⟩:=hRT.cells;go_wp2_with fail;go_ret;exact⟨rfl,X,⟨_,_,_,_,_,_,_,_,_,_,H3.o.grownN (Aa _) oM⟩,znL _⟩
  have hk2b:(k==2)=false:=by simpa using hk2
  by_cases hk3:k=3
  ·subst hk3;go_wp2_with fail;refine(zex ⟨_,_,_,_,_,_,_,_,_,_,H3.o⟩ hN hxm).mono ?_;rintro e1 w4 ⟨rfl,h4⟩;have H4:=bV h4;go_wp2_with fail;go_ret;exact⟨rfl,X,H4.o,znL _⟩
  have hk3b:(k==3)=false:=by simpa using hk3
  by_cases hk4:k=4
  ·subst hk4;obtain⟨wt,a,hfree,hwt,hwl,hof,hmost⟩:=zkk AX.o.opn;have HF:=bV hfree;have HWT:=bV hwt;have HM:=bV hmost;have HOF:=bV hof;go_wp2_with fail;refine(zjc (S:=WtS) AX.o.text (zd8 L.it HOF.o)).mono ?_;rintro e1 w4 ⟨rfl,hk⟩;have H4:=bV (H3.o.grownN hk.grown (znL _));have A4:=bV (AX.o.grown hk.grown);obtain⟨x0,x1⟩:=Ms (zbG hk.grown N3.o);go_wp2_with fail;refine(Yx A4.o.tree HF.o HWT.o hwl).mono ?_;rintro e1 w5 ⟨hg,⟨rfl,hno⟩|⟨a',hM,rfl⟩⟩
   ·exact absurd (Wx HM.o) (hno _)
   ·rw[show a'.shown=a.shown from zd6 HM.o hM λb=>Iff.rfl];have H5:=bV (H4.o.grownN hg (Nat.le_add_right N 3000));go_wp2_with fail;go_ret;exact⟨rfl,X,⟨_,_,_,_,_,_,_,_,_,_,H5.o⟩,znL _⟩
  have hk4b:(k==4)=false:=by simpa using hk4
  have hk5b:(k==5)=false:=by simp;omega
  have hk6b:(k==6)=false:=by simp;omega
  have hk7b:(k==7)=false:=by simp;omega
  go_wp2_with fail;go_ret;exact⟨rfl,X,⟨_,_,_,_,_,_,_,_,_,_,H3.o.grownN (Aa _) oM⟩,znL _⟩
end
section
open Go.Proofs.Tryz
open Go.RowKit
variable{w w0:World}{ar:Option Addr}{len bw N cap:Nat}{X:List LTx}
structure OpsAt(w:World)(ar:Option Addr)(len:Nat):Prop where
 small:len<=2000000
 get:∀i,i<len->∃a k on at' s,ar=some a/\w.cell? (a.add (i*4))=some (.int .i64 k)/\w.cell? ⟨(a.add (i*4)).block,(a.add (i*4)).off+1,none⟩=some (.int .i64 on)/\w.cell? ⟨(a.add (i*4)).block,(a.add (i*4)).off+2,none⟩=some (.int .i64 at')/\w.cell? ⟨(a.add (i*4)).block,(a.add (i*4)).off+3,none⟩=some (.string s)/\(-9223372036854775808<=on/\on<=9223372036854775807) /\ -9223372036854775808<=at'/\at'<=9223372036854775807
theorem OpsAt.grown{b:World}(h:OpsAt w ar len)(a:w.grownBy b none):OpsAt b ar len:=by
 refine⟨h.small,λm l=>?_⟩;obtain⟨c,k,n,at',s,d,e,f,g,i,j⟩:=h.get m l;exact⟨c,k,n,at',s,d,cell_kept e a sM,cell_kept f a sM,cell_kept g a sM,cell_kept i a sM,j⟩
theorem Lawful.low(h:Lawful w0 w bw X N):w0.grownBy w none:=by
 obtain⟨k,f,e,j,i,g,b,a,d,c,h⟩:=h;exact h.grown
theorem Lawful.start(w:World):Lawful w (w.alloc (.cells #[zN,zN,zN,zN,zN,vI 0] 61)) w.heap.size [] 0:=by
 refine⟨zN,zN,zN,zN,zN,0,[],[],[],[],⟨⟨Ac w _,mD _ _ _ _,mD _ _ _ _,mD _ _ _ _,mD _ _ _ _,λi v m h=>(by simp at h),λi v m h=>(by simp at h),λv h=>(by cases h),rfl,znL _,λg a=>a.elim⟩,mD _ _ _ _,λx c=>(by cases c),sM,rfl,⟨znL _,znL _,znL _⟩,zwA _ _ none,znL _,λv b g a=>?_⟩⟩;simp only[zmC,tD,or_false]at b;rcases b with rfl|rfl|rfl|rfl|rfl<;>simp[Value.ownBlock]at a
theorem zez(h:Lawful w0 w bw X N)(l:N<=1000000000000):
  Calls prog 31 #[pT bw] w λe a=>e=.returned (.bool true)/\Lawful w0 a bw X N:=by
 obtain⟨r,j,i,q,p,k,d,c,g,f,h⟩:=h;obtain⟨m,n,o⟩:=h.small;refine(zh9 h.ls h.lenB oM oM).mono ?_;rintro e a ⟨rfl,b⟩;exact⟨rfl,_,_,_,_,_,_,_,_,_,_,h.grownN b (znL _)⟩
theorem ze0(L:LibO)(j:OpsAt w ar len){last:Nat}(U:3<=last)(V:last<=4):
  Calls prog 14 #[.slice ar len cap,vI last] w λe J=>e=.returned (.bool true)/\w.grownBy J none:=by
 have s:=bV j;have W:=j.small;have h:=bV (Lawful.start w)
 go_in;go_upto_region 2 with fail;obtain⟨p,o⟩:∃p,w.alloc (.cells #[zN,zN,zN,zN,zN,vI 0] 61)=p:=⟨_,rfl⟩;obtain⟨bw,l⟩:∃bw,w.heap.size=bw:=⟨_,rfl⟩;rw[o,l]at h;rw[o,l];go_wp2_with fail;refine(Y0 L h.o _).mono ?_;rintro f w2 ⟨rfl,t,x,-⟩;have q:=bV x;go_wp2_with fail;go_loopg[6,7] (last-1) (λm ok F wr=>∃(k:Nat) (X:List LTx),ok=.bool true/\F=vI k/\2<=k/\k+m=last+1/\Hid (Lawful w wr bw X (3000*k)))
 case atStart=>exact⟨2,t,rfl,rfl,znL _,oM,bV (q.o.grown (Aa _) oM)⟩
 case round=>
  obtain⟨k,X,rfl,rfl,Q,T,a⟩:=hrel;rcases jD (show k<=last+1 by omega)with z|n;rotate_left
  ·have D:(k:Int)<=(last:Int):=oM;have R:(k:Int)<=5:=oM;obtain⟨m,rfl⟩:∃m,gk=m+1:=⟨gk-1,oM⟩;go_wp2_with fail;refine(Y2 L a.o oM (k:=(k:Int)) (on:=0) (at':=9) _ oM oM oM).mono ?_;rintro f M ⟨rfl,d,g,-⟩;have c:=bV g;go_wp2_with fail;go_roundg m
   case measure=>omega
   case rel=>exact⟨k+1,d,rfl,by push_cast;rfl,oM,oM,bV (c.o.grown (Aa _) oM)⟩
  ·have D:¬(k:Int)<=(last:Int):=oM;go_wp2_with fail;go_loopg[6,8] len (λm ok E wr=>∃(i:Nat) (X:List LTx),ok=.bool true/\E=vI i/\i+m=len/\Hid (Lawful w wr bw X (3000*(i+10))))
   case atStart=>exact⟨0,X,rfl,rfl,oM,bV (a.o.grown (Aa _) oM)⟩
   case round=>
    obtain⟨i,v,rfl,rfl,P,a⟩:=hrel;rcases jD (show i<=len by omega)with z|n
    ·have C:¬(i:Int)<(len:Int):=oM;go_wp2_with fail;go_ret;exact⟨rfl,a.o.low⟩
    ·have C:(i:Int)<(len:Int):=oM;obtain⟨m,rfl⟩:∃m,gk=m+1:=⟨gk-1,oM⟩;obtain⟨O,b,on,at',I,rfl,Y,Z,s2,s3,⟨G,H⟩,-⟩:=(s.o.grown a.o.low).get i n;by_cases S:b<=(last:Int)
     ·have A:¬b>(last:Int):=oM;have B:¬(last:Int)<b:=oM;go_wp2_with fail;refine(Y2 L a.o oM (k:=b) (on:=on) (at':=at') I oM G H).mono ?_;rintro f M ⟨rfl,d,g,-⟩;have c:=bV g;go_wp2_with fail;refine(zez c.o oM).mono ?_;rintro f w5 ⟨rfl,y⟩;have r:=bV y;go_wp2_with fail;go_roundg m
      case measure=>omega
      case rel=>exact⟨i+1,d,sM,by push_cast;rfl,oM,bV (r.o.grown (Aa _) oM)⟩
     ·have A:b>(last:Int):=oM;have B:(last:Int)<b:=oM;go_wp2_with fail;go_roundg m
      case measure=>omega
      case rel=>exact⟨i+1,v,rfl,by push_cast;rfl,oM,bV (a.o.grown (Aa _) oM)⟩
theorem Typed_any(L:LibO)(a:OpsAt w ar len):
  Calls prog 4 #[.slice ar len cap] w λe c=>e=.returned (.bool true)/\w.grownBy c none:=by
 have P:=bV (ze0 (cap:=cap) L a (last:=4) oM oM)
 go_in;go_wp2_with fail;refine P.o.mono ?_;rintro d f ⟨rfl,b⟩;have G:=bV b;go_wp2_with fail;go_ret;exact⟨rfl,G.o⟩
end
end Go.Proofs.YtckhafpejefbbaaGreatDoor
