import Derived.Test.YtckhafpejefbbaaGreatDoorB29

set_option maxRecDepth 100000
set_option maxHeartbeats 16000000
namespace Go.Proofs.YtckhafpejefbbaaGreatDoor
section
open Tw Tw.Rf Go.Proofs.Tryz
open Go.RowKit
section
variable{w w':World}{bs:Nat}{x:Option Nat}{lv lv':Value}
theorem Tryz.zt2:(Tryz.prog.info? 281).map (λi=>(i.zero,i.size,i.bytes))=some (some (.agg #[vU 0,vI 0,vI 0,vI 0]),4,32):=kR
theorem zc7{b:Nat}{t:TypeId}{a0 a1 a2 a:Value}(h:zH w b #[a0,a1,a2,a] t):∀j u,[a0,a1,a2,a][j]?=some u->w.cell? (((aD b 0):Addr).add j)=some u:=by
 intro j u d;have e:(((aD b 0):Addr).add j)=(aD b j):=by
  unfold Addr.add;split
  ·rename_i c;rw[c]
  ·simp
 rw[e,mB _ _ _ _ _ _ h];simpa using d
def StS:List TypeId:=[155,281]
structure SF(bs:Nat)(x:Option Nat)(lv lv':Value)(w w':World):Prop where
 os:w'.os=w.os
 tape:w'.tape=w.tape
 output:w'.output=w.output
 size:w.heap.size<=w'.heap.size
 block:∀ {k:Nat},k<w.heap.size->k≠bs->some k≠lv.ownBlock->some k≠x->w'.heap[k]?=w.heap[k]?
 next:∀ {g:Nat},lv'.ownBlock=some g->lv.ownBlock=some g\/w.heap.size<=g
theorem SF.trans{m n o:Value}{a b c:World}(h:SF bs x m n a b)(k:SF bs x n o b c):SF bs x m o a c where
 os:=k.os.trans h.os
 tape:=k.tape.trans h.tape
 output:=k.output.trans h.output
 size:=kB h.size k.size
 block:=λ{q} f g i j=>(k.block (aB f h.size) g (λe=>(h.next e.symm).elim (λd=>i d.symm) (λd=>oM)) j).trans (h.block f g i j)
 next:=λ{p} e=>(k.next e).elim (λe=>h.next e) (λe=>.inr (kB h.size e))
theorem SF.Ae(h:zG w w'):SF bs x lv lv w w':=⟨h.os,h.tape,h.output,h.size,λa _ _ _=>h.block _ a sM,λe=>.inl e⟩
theorem SF.zwh(h:w.grownBy w' x):SF bs x lv lv w w':=⟨h.os,h.tape,h.output,h.size,λa _ _ b=>h.block _ a b,λe=>.inl e⟩
theorem SF.zta(h:w.grownBy w' lv.ownBlock):SF bs x lv lv w w':=⟨h.os,h.tape,h.output,h.size,λa _ b _=>h.block _ a b,λe=>.inl e⟩
theorem SF.more(h:SF bs none lv lv' w w'):SF bs x lv lv' w w':={h with block:=λa b c _=>h.block a b c sM}
theorem SF.zu8{f d:World}{g:Nat}(a:zG w f)(b:f.grownBy d lv.ownBlock)(j:lv.ownBlock=some g\/g=f.heap.size)(hv:lv'.ownBlock=some g)(u:Value):SF bs none lv lv' w (d.setCell (aD bs 1) u) where
 os:=b.os.trans a.os
 tape:=b.tape.trans a.tape
 output:=b.output.trans a.output
 size:=by have:=a.size;have:=b.size;simp;omega
 block:=λ{k} h i c _=>(aA d (aD bs 1) k u (by simpa using i)).trans ((b.block k (aB h a.size) c).trans (a.block k h sM))
 next:=λ{m} e=>by
  rw[hv]at e;cases e;exact j.imp id (λe=>by rw[e];exact a.size)
section
variable {w:World}{B bs bt:Nat}{l:List Tw.Rf.RC}{bad:Bool}{env:List Bnd}{lv ev sv:Value}
theorem ST.blocks(h:ST w B bs bt l bad env lv ev sv){k:Nat}(a:k=bs\/some k=lv.ownBlock):B<=k/\∃c t,w.heap[k]?=some (.cells c t (0,0))/\StS.contains t=true:=by
 rcases a with rfl|a
 ·exact⟨h.low,_,_,h.store,rfl⟩
 ·rcases h.types.2 with⟨b,_⟩|⟨i,f,g,b,d,e,_⟩
  ·rw[b]at a;simp[Value.ownBlock]at a
  ·rw[b]at a;simp[Value.ownBlock]at a;subst a;exact⟨d,_,_,e,rfl⟩
theorem SF.tk{lv':Value}{w':World}(h:ST w B bs bt l bad env lv ev sv)(f:SF bs none lv lv' w w'):TK B StS w w' where
 low:=λ{k} q n=>f.block n (λe=>by have:=(h.blocks (.inl e)).1;omega) (λe=>by have:=(h.blocks (.inr e)).1;omega) sM
 os:=f.os
 tape:=f.tape
 output:=f.output
 size:=f.size
 cells:=λ{k c t r} g m=>by
  have b:¬(k=bs\/some k=lv.ownBlock):=λe=>by
   have⟨_,j,p,a,d⟩:=h.blocks e;rw[g]at a;cases a;rw[m]at d;cases d
  exact(f.block (zgE.1 g).1 (λe=>b (.inl e)) (λe=>b (.inr e)) sM).trans g
 other:=λ{k s} i o=>by
  have b:¬(k=bs\/some k=lv.ownBlock):=λe=>by
   have⟨_,j,p,a,d⟩:=h.blocks e;rw[i]at a;cases a;exact o _ _ _ rfl
  exact(f.block (zgE.1 i).1 (λe=>b (.inl e)) (λe=>b (.inr e)) sM).trans i
theorem Wk{w:World}{bs j:Nat}{c:Array Value}(d:zH w bs c 155)(h:B<=bs)(v:Value):TK B StS w (w.setCell (aD bs j) v) where
 low:=λ{k} i m=>aA w (aD bs j) k v (by simp;omega)
 os:=rfl
 tape:=rfl
 output:=rfl
 size:=sM
 cells:=λ{k g t n} a e=>(aA w (aD bs j) k v (by rintro rfl;rw[d]at a;cases a;revert e;decide)).trans a
 other:=λ{k o} b f=>(aA w (aD bs j) k v (by rintro rfl;rw[d]at b;cases b;exact f _ _ _ rfl)).trans b
theorem Mc(h:ST w B bs bt l bad env lv ev sv)(c:RC)(hc:c.fo=none)(f0:Int)(hlen:l.length+1<=5000000):
  Calls prog 129 #[pT bs,.agg #[vU c.sort,vI c.a,vI c.b,vI f0]] w λe w'=>e=.returned (vI l.length)/\∃lv',SF bs none lv lv' w w'/\ST w' B bs bt (l++[c]) bad env lv' ev sv:=by
 have⟨i0,hi0,hz0,hz1,hz2⟩:=info_parts Tryz.zt2;obtain⟨p,cc,rfl⟩:=h.slice;have hbs:bs<w.heap.size:=(zgE.1 h.store).1;have g1:=zwA w (.cells #[vU c.sort,vI c.a,vI c.b,vI (-1)] 281) none;have n1:=Ac w (.cells #[vU c.sort,vI c.a,vI c.b,vI (-1)] 281);have s1:(w.alloc (.cells #[vU c.sort,vI c.a,vI c.b,vI (-1)] 281)).heap.size=w.heap.size+1:=sM;have hown:∀k,(Value.slice p l.length cc).ownBlock=some k->k<w.heap.size:=λk hk=>(h.types.lt k hk).2;have H1:=h.grown g1;have hmx:prog.follows .mixedOrders=true:=kR;go_in;go_wp21;generalize w.heap.size=tb at n1 s1 hbs hown ⊢;generalize w.alloc (.cells #[vU c.sort,vI c.a,vI c.b,vI (-1)] 281)=w1 at g1 n1 s1 H1 ⊢;have hlow:=H1.low;have CL:∀W,w1.grownBy W (Value.slice p l.length cc).ownBlock->W.cell? (aD tb 0)=some (vU c.sort)/\W.cell? (aD tb 1)=some (vI c.a)/\W.cell? (aD tb 2)=some (vI c.b)/\W.cell? (aD tb 3)=some (vI (-1)):=λW hW=>by
  have m:W.heap[tb]?=_:=(hW.block tb (zgE.1 n1).1 (λe=>?_)).trans n1
  ·refine⟨?_,?_,?_,?_⟩<;>(rw[mB _ _ _ _ _ _ m];rfl)
  ·have:=hown tb e.symm;omega
 refine Ga (λW=>W.cell? (aD tb 0)=some (vU c.sort)/\W.cell? (aD tb 1)=some (vI c.a)/\W.cell? (aD tb 2)=some (vI c.b)/\W.cell? (aD tb 3)=some (vI (-1))) hmx (CL _ (Ay (Ad (Aa w1)))) ?_;intro hSd;refine tkH 0 (v:=pT bs) rfl (λW _=>by go_simp) hSd ?_;simp[Act.put];refine tkH 1 (v:=pT bs) rfl (λW _=>by go_simp) hSd ?_;simp[Act.put];refine tkH 2 (v:=pT bs) rfl (λW _=>by go_simp) hSd ?_;simp[Act.put];refine tkH 3 (v:=.pointer (some (aD bs 1))) rfl (λW _=>by go_simp) hSd ?_;simp[Act.put];refine tkH 5 (v:=.agg #[vU c.sort,vI c.a,vI c.b,vI (-1)]) rfl (λW ⟨e0,e1,e2,e3⟩=>by go_simp) hSd ?_;simp[Act.put];refine gE (rs:=[4,6]) kR sM ?_;refine yA rfl (λK hK=>?_) (yA rfl (λK hK=>?_) zA)
 case' _=>
  have⟨_,c10,_,_,_⟩:=(H1.grown (Ad (Aa w1))).cells;go_simp;refine hK.out _ _ (CL _ (Ay (Ad (Aa w1)))) (λhSd=>?_);refine gE (rs:=[6]) kR sM ?_;refine yA rfl (λK hK=>?_) zA;go_simp;refine hK.out _ _ (CL _ (Ay (Aj (Ad (Aa w1)) _))) (λhSd=>?_)
 rotate_left
 case' _=>
  go_simp;refine hK.out _ _ (CL _ (Ay (Ad (Aj (Aa w1) _)))) (λhSd=>?_);refine gE (rs:=[4]) kR sM ?_;refine yA rfl (λK hK=>?_) zA;have⟨_,c10,_,_,_⟩:=(H1.grown (Ad (Aj (Aa w1) (.cells #[vU c.sort,vI c.a,vI c.b,vI (-1)] 281)))).cells;go_simp;refine hK.out _ _ (CL _ (Ay (Ad (Aj (Aa w1) _)))) (λhSd=>?_)
 all_goals
  have GA:w1.grownBy (w1.drew.alloc (.cells #[vU c.sort,vI c.a,vI c.b,vI (-1)] 281)) none:=Aj (Ad (Aa w1)) _;have NA:(w1.drew.alloc (.cells #[vU c.sort,vI c.a,vI c.b,vI (-1)] 281)).heap[w1.heap.size]?=some (.cells #[vU c.sort,vI c.a,vI c.b,vI (-1)] 281):=Ac w1.drew _;have HA:=H1.grown GA;have hsz:w1.heap.size<(w1.drew.alloc (.cells #[vU c.sort,vI c.a,vI c.b,vI (-1)] 281)).heap.size:=sM;obtain⟨wa,hwa⟩:∃wa,w1.drew.alloc (.cells #[vU c.sort,vI c.a,vI c.b,vI (-1)] 281)=wa:=⟨_,rfl⟩;rw[hwa]at GA NA HA hsz
  first
   |rw[hwa]
   |rw[show(w1.alloc (.cells #[vU c.sort,vI c.a,vI c.b,vI (-1)] 281)).drew=w1.drew.alloc (.cells #[vU c.sort,vI c.a,vI c.b,vI (-1)] 281)from rfl,hwa]
  rw[s1]at NA hsz;refine gE (rs:=[7]) kR sM ?_;refine yA rfl (λK hK=>?_) zA;rw[mA (by rfl)];refine wp_append_lies _ _ _ 152 rfl B 281 i0 (.agg #[vU 0,vI 0,vI 0,vI 0]) 4 32 underlying152 hi0 hz0 hz1 hz2 rfl dZ (.slice p l.length cc) l.length (E6 l) rfl HA.types ⟨tb+1,0,none⟩ 1 1 [vU c.sort,vI c.a,vI c.b,vI (-1)] rfl rfl (zc7 NA) (by intro u hu;simp at hu;rcases hu with rfl|rfl|rfl|rfl<;>rfl) dZ (by unfold maxLen;omega) oM oM _ rfl ?_;intro g5 cap5 w5 hown5 hgrow5 hat5 _;have GW5:wa.grownBy w5 (Value.slice p l.length cc).ownBlock:=⟨hgrow5.os,hgrow5.tape,hgrow5.output,hgrow5.size,hgrow5.block⟩;have K5:=SF.zu8 (bs:=bs) (lv':=sL g5 (l.length+1) cap5) (Ab g1 GA) GW5 hat5 rfl (sL g5 (l.length+1) cap5);have C5:=CL _ (Ec GA GW5);have S5:=Eu HA.types GW5 HA.store dZ;have E5:=Ai HA.Ly λg c hc=>Eu HA.types GW5 hc dZ;have⟨sn,hsn⟩:=HA.seen;have Q5:=Ai hsn λg c hc=>Eu HA.types GW5 hc dZ;have m5:w5.heap[tb]?=_:=((Ec GA GW5).block tb (zgE.1 n1).1 (λe=>by have:=hown tb e.symm;omega)).trans n1;refine hK.out _ _ C5 (λhSd=>?_);refine gE (rs:=[8]) kR sM ?_;refine yA rfl (λK hK=>?_) zA;go_simp;refine hK.out _ _ C5 (λhSd=>?_);refine gE (rs:=[9]) kR sM ?_;refine yA rfl (λK hK=>?_) zA;go_simp;refine hK.out _ _ C5 (λhSd=>?_);refine gE (rs:=[10]) kR sM ?_;refine yA rfl (λK hK=>?_) zA;have fz:w5.frozen? (aD bs 1)=false:=eB _ _ _ _ _ S5;have cz:w5.cell? (aD bs 1)=some (.slice p l.length cc):=zcR S5;go_simp;have S6:(w5.setCell (aD bs 1) (sL g5 (l.length+1) cap5)).heap[bs]?=some (.cells #[pT bt,sL g5 (l.length+1) cap5,.bool bad,ev,sv] 155 (0,0)):=Bu S5 _;have Aq:∀ {g:Nat} {c:Array Value} {u:TypeId},u≠155->w5.heap[g]?=some (.cells c u (0,0))->(w5.setCell (aD bs 1) (sL g5 (l.length+1) cap5)).heap[g]?=some (.cells c u (0,0)):=λ{g c u} hu hc=>(aA w5 (aD bs 1) g _ (by rintro rfl;rw[S5]at hc;cases hc;exact hu rfl)).trans hc;have m6:=Aq dZ m5;refine hK.out _ _ ?_ (λ_=>?_)
  ·refine⟨?_,?_,?_,?_⟩<;>(rw[mB _ _ _ _ _ _ m6];rfl)
  have K6:=K5;have X6:ST (w5.setCell (aD bs 1) (sL g5 (l.length+1) cap5)) B bs bt (l++[c]) bad env (sL g5 (l.length+1) cap5) ev sv:=by
   refine⟨S6,?_,Ai E5 λg c hc=>Aq dZ hc,⟨sn,Ai Q5 λg c hc=>Aq dZ hc⟩,hlow,by simp;omega⟩;have h6:=Ai hown5 λg c hc=>Aq dZ hc;rw[eA,zci];have e9:E6 [c]=[vU c.sort,vI c.a,vI c.b,vI (-1)]:=(by simp[E6,Gn,RC.foI,hc]);rw[e9];exact h6
  generalize w5.setCell (aD bs 1) (sL g5 (l.length+1) cap5)=w6 at K6 X6 ⊢;have⟨_,q1,_,_,_⟩:=X6.cells;refine iE kR ⟨rfl,?_⟩ _;go_wp21;go_ret;exact⟨rfl,_,K6,X6⟩
end
end
section
section
variable {w:World}{B bs bt:Nat}{l:List Tw.Rf.RC}{bad:Bool}{env:List Bnd}{lv ev sv:Value}
variable{g k cap:Nat}{x y:Tw.Rf.RC}
theorem Qb(h:ST w B bs bt l bad env lv ev sv)(b:l.length+1<=5000000):
  Calls prog 130 #[pT bs] w λe w'=>e=.returned (vI l.length)/\∃lv',SF bs none lv lv' w w'/\ST w' B bs bt (l++[⟨118,0,0,none⟩]) bad env lv' ev sv:=by
 have a:=Mc h ⟨118,0,0,none⟩ rfl 0 b;go_in;go_wp21;go_call a as e1 w1 ⟨rfl,lv',hk,hs⟩;go_wp21;go_ret;exact⟨rfl,lv',hk,hs⟩
theorem za7:∀ {l:List RC} {k:Nat} {x y:RC} {m:Nat} {v:Value},l[k]?=some x->m<4->(Gn x).set m v=Gn y->(E6 l).set (k*4+m) v=E6 (l.set k y)
 |[],k,x,y,m,v,h,_,_=>by simp at h
 |z::l,0,x,y,m,v,h,hm,e=>by
  cases h;rw[zsZ,E6,E6,<-e,Nat.zero_mul,Nat.zero_add,List.set_append_left _ _ (by simpa[Gn]using hm)]
 |z::l,k+1,x,y,m,v,h,hm,e=>by
  have a:=za7 (l:=l) (k:=k) (x:=x) (y:=y) (m:=m) (v:=v) (by simpa using h) hm e;simp[List.set_cons_succ,E6];rw[aE _ _ (by simp[Gn];omega),show(k+1)*4+m-(Gn z).length=k*4+m by simp[Gn];omega,a]
theorem ztb{w:World}{j:Nat}{c:Array Value}(d:zH w g c 281)(i:B<=g)(v:Value):TK B StS w (w.setCell (aD g j) v) where
 low:=λ{k} m n=>aA w (aD g j) k v (by simp;omega)
 os:=rfl
 tape:=rfl
 output:=rfl
 size:=sM
 cells:=λ{k h t o} a e=>(aA w (aD g j) k v (by rintro rfl;rw[d]at a;cases a;revert e;decide)).trans a
 other:=λ{k p} b f=>(aA w (aD g j) k v (by rintro rfl;rw[d]at b;cases b;exact f _ _ _ rfl)).trans b
theorem ST.zoo(h:ST w B bs bt l bad env lv ev sv)(r:l[k]?=some x){m:Nat}(hv:lv=sL g l.length cap){v:Value}(s:m<4)(e:(Gn x).set m v=Gn y):
  ST (w.setCell ⟨g,k*4+m,none⟩ v) B bs bt (l.set k y) bad env lv ev sv/\TK B StS w (w.setCell ⟨g,k*4+m,none⟩ v):=by
 have t:=h.types;subst hv;rcases t.2 with⟨d,_⟩|⟨F,D,E,d,i,f,n,o,p,q⟩
 ·cases d
 ·cases d;have Aq:∀ {j:Nat} {c:Array Value} {b:TypeId},b≠281->w.heap[j]?=some (.cells c b (0,0))->(w.setCell ⟨g,k*4+m,none⟩ v).heap[j]?=some (.cells c b (0,0)):=λ{j c b} A a=>(aA w ⟨g,k*4+m,none⟩ j _ (by rintro rfl;rw[f]at a;cases a;exact A rfl)).trans a;have⟨C,z⟩:=h.seen;refine⟨⟨Aq dZ h.store,?_,Ai h.Ly λg c a=>Aq dZ a,⟨C,Ai z λg c a=>Aq dZ a⟩,h.low,by rw[jB];exact h.few⟩,ztb f i _⟩;rw[jB];refine⟨by rw[Ul,jB],.inr ⟨g,cap,_,rfl,i,Bu f _,n,o,by simpa using p,?_⟩⟩;rw[bE,List.take_set,q];exact za7 r s e
theorem Y8:∀ {l:List RC} {k:Nat} {x y:RC} {v0 v1 v2 v3:Value},l[k]?=some x->Gn y=[v0,v1,v2,v3]->((((E6 l).set (k*4) v0).set (k*4+1) v1).set (k*4+2) v2).set (k*4+3) v3=E6 (l.set k y)
 |[],k,x,y,_,_,_,_,h,_=>by simp at h
 |z::l,0,x,y,_,_,_,_,h,e=>by
  rw[zsZ,E6,E6,e];rfl
 |z::l,k+1,x,y,v0,v1,v2,v3,h,e=>by
  have b:=Y8 (l:=l) (k:=k) (by simpa using h) e;have a:∀(L:List Value) (m:Nat) (v:Value),(Gn z++L).set ((k+1)*4+m) v=Gn z++L.set (k*4+m) v:=λL m v=>by
   rw[aE _ _ (by simp[Gn];omega),show(k+1)*4+m-(Gn z).length=k*4+m by simp[Gn];omega]
  have c:∀(L:List Value) (v:Value),(Gn z++L).set ((k+1)*4) v=Gn z++L.set (k*4) v:=λL v=>a L 0 v;simp[List.set_cons_succ,E6];rw[<-b,c,a,a,a]
theorem ST.zr1(h:ST w B bs bt l bad env lv ev sv)(s:l[k]?=some x){n:Nat}(hv:lv=sL g n cap){v0 v1 v2 v3:Value}(e:Gn y=[v0,v1,v2,v3]):
  ST ((((w.setCell (aD g (k*4)) v0).setCell (aD g (k*4+1)) v1).setCell (aD g (k*4+2)) v2).setCell (aD g (k*4+3)) v3) B bs bt (l.set k y) bad env lv ev sv/\w.grownBy ((((w.setCell (aD g (k*4)) v0).setCell (aD g (k*4+1)) v1).setCell (aD g (k*4+2)) v2).setCell (aD g (k*4+3)) v3) (some g):=by
 have t:=h.types;subst hv;rcases t.2 with⟨f,_⟩|⟨E,C,D,f,m,i,o,p,q,r⟩
 ·cases f
 ·cases f;have kp:∀ {j:Nat},j≠g->((((w.setCell (aD g (k*4)) v0).setCell (aD g (k*4+1)) v1).setCell (aD g (k*4+2)) v2).setCell (aD g (k*4+3)) v3).heap[j]?=w.heap[j]? :=λ{j} b=>(aA _ (aD g (k*4+3)) j _ (by simpa using b)).trans ((aA _ (aD g (k*4+2)) j _ (by simpa using b)).trans ((aA _ (aD g (k*4+1)) j _ (by simpa using b)).trans (aA _ (aD g (k*4)) j _ (by simpa using b))));have Aq:∀ {j:Nat} {c:Array Value} {d:TypeId},d≠281->w.heap[j]?=some (.cells c d (0,0))->((((w.setCell (aD g (k*4)) v0).setCell (aD g (k*4+1)) v1).setCell (aD g (k*4+2)) v2).setCell (aD g (k*4+3)) v3).heap[j]?=some (.cells c d (0,0)):=λ{j c d} z a=>(kp (by rintro rfl;rw[i]at a;cases a;exact z rfl)).trans a;have⟨A,v⟩:=h.seen;refine⟨⟨Aq dZ h.store,?_,Ai h.Ly λg c a=>Aq dZ a,⟨A,Ai v λg c a=>Aq dZ a⟩,h.low,by rw[jB];exact h.few⟩,rfl,rfl,rfl,sM,λj _ b=>kp (by rintro rfl;exact b rfl)⟩;rw[jB];refine⟨by rw[Ul,jB],.inr ⟨g,cap,_,rfl,m,Bu (Bu (Bu (Bu i _) _) _) _,o,p,by simpa using q,?_⟩⟩;simp[Array.toList_setIfInBounds,List.take_set,r];exact Y8 s e
theorem ST.zvl(h:ST w B bs bt l bad env lv ev sv)(b:Bool):ST (w.setCell (aD bs 2) (.bool b)) B bs bt l b env lv ev sv/\TK B StS w (w.setCell (aD bs 2) (.bool b)):=by
 have Aq:∀ {j:Nat} {c:Array Value} {d:TypeId},d≠155->w.heap[j]?=some (.cells c d (0,0))->(w.setCell (aD bs 2) (.bool b)).heap[j]?=some (.cells c d (0,0)):=λ{j c d} f a=>(aA w (aD bs 2) j _ (by rintro rfl;rw[h.store]at a;cases a;exact f rfl)).trans a;have⟨i,e⟩:=h.seen;exact⟨⟨Bu h.store _,Ai h.types λg c a=>Aq dZ a,Ai h.Ly λg c a=>Aq dZ a,⟨i,Ai e λg c a=>Aq dZ a⟩,h.low,h.few⟩,Wk h.store h.low _⟩
end
end
end
section
open Tw Tw.Rf
open Go.RowKit
section
def Bf(w:World)(B:Nat)(e:TypeId)(v:Value)(xs:List Value):Prop:=w.ownsRow B e 1 v xs.length xs
section
variable {w w':World}{B:Nat}{e:TypeId}{v:Value}{xs:List Value}
variable{k n g:Nat}{u:Value}
theorem Bf.grown(h:Bf w B e v xs)(b:zG w w'):Bf w' B e v xs:=
 Ai h λ_ _ a=>zbG b a
theorem Bf.slice(h:Bf w B e v xs):∃p c,v=.slice p xs.length c:=by
 rcases h.2 with⟨a,b⟩|⟨f,d,_,a,_⟩
 ·exact⟨_,_,by rw[a,b]⟩
 ·exact⟨_,_,a⟩
theorem Bf.at(h:Bf w B e v xs)(c:xs[k]?=some u):∃g cap,v=sL g xs.length cap/\w.cell? (aD g k)=some u/\w.frozen? (aD g k)=false/\B<=g/\g<w.heap.size:=by
 have j:=(zlE.1 c).1;rcases h.2 with⟨_,i⟩|⟨g,cap,f,e,d,b,_⟩
 ·omega
 ·have a:=h;unfold Bf at a;rw[e]at a;exact⟨g,cap,e,(a.cellAt _ oM).trans c,eB _ _ _ _ _ b,d,(zgE.1 b).1⟩
theorem Bf.at'{p:Option Addr}{c:Nat}(h:Bf w B e (.slice p n c) xs)(i:xs[k]?=some u):∃g,p=some (aD g 0)/\n=xs.length/\w.cell? (aD g k)=some u/\w.frozen? (aD g k)=false/\B<=g/\g<w.heap.size:=by
 obtain⟨g,j,e,a,b,d,f⟩:=h.at i;injection e with e1 e2;exact⟨g,e1,e2,a,b,d,f⟩
theorem Bf.set(h:Bf w B e v xs){cap:Nat}(hv:v=sL g n cap)(u:Value):Bf (w.setCell (aD g k) u) B e v (xs.set k u)/\w.grownBy (w.setCell (aD g k) u) v.ownBlock:=by
 subst hv;refine⟨?_,rfl,rfl,rfl,sM,λm _ j=>aA w (aD g k) m _ (by rintro rfl;exact j rfl)⟩;rcases h.2 with⟨e,_⟩|⟨q,o,p,e,a,b,c,d,f,i⟩
 ·cases e
 ·cases e;unfold Bf;rw[jB];refine⟨sM,.inr ⟨g,cap,_,rfl,a,Bu b _,c,d,by simpa using f,?_⟩⟩;rw[bE,List.take_set,i]
theorem Bf.ne(h:Bf w B e v xs){c:Array Value}{u:TypeId}{m:Nat×Nat}(f:u≠e)(d:w.heap[g]?=some (.cells c u m)):some g≠v.ownBlock:=λe=>by
 rcases h.2 with⟨a,_⟩|⟨o,i,j,a,_,b,_⟩
 ·rw[a]at e;simp[Value.ownBlock]at e
 ·rw[a]at e;simp[Value.ownBlock]at e;rw[<-e,d]at b;cases b;exact f rfl
theorem Bf.kept(h:Bf w B e v xs)(m:∀g,v.ownBlock=some g->w'.heap[g]?=w.heap[g]?):Bf w' B e v xs:=by
 refine⟨h.1,?_⟩;rcases h.2 with a|⟨b,i,j,a,c,d,f⟩
 ·exact .inl a
 ·exact .inr ⟨b,i,j,a,c,(m b (by rw[a];rfl)).trans d,f⟩
end
section
variable {w w':World}{B bs bt:Nat}{l:List Tw.Rf.RC}{bad:Bool}{env:List Bnd}{lv ev sv:Value}
theorem ST.beside(h:ST w B bs bt l bad env lv ev sv){p:Nat}{e:TypeId}{v:Value}{xs:List Value}(y:Bf w p e v xs)(f:e≠155/\e≠281/\e≠284)(z:e=3->∀g,v.ownBlock=some g->sv.ownBlock≠some g)(m:w.grownBy w' v.ownBlock):ST w' B bs bt l bad env lv ev sv:=by
 have k:∀(g:Nat) {u:TypeId} (c:Array Value),u≠e->zH w g c u->zH w' g c u:=λg _ c A a=>(m.block _ (zgE.1 a).1 (y.ne A a)).trans a;obtain⟨seen,i⟩:=h.seen;refine{h with store:=k _ _ f.1.symm h.store,types:=Ai h.types λg c a=>k g c f.2.1.symm a,Ly:=Ai h.Ly λg c a=>k g c f.2.2.symm a,seen:=⟨seen,?_⟩};by_cases o:e=3
 ·refine⟨i.1,?_⟩;rcases i.2 with b|⟨d,t,x,b,q,j,r⟩
  ·exact .inl b
  ·refine .inr ⟨d,t,x,b,q,(m.block d (zgE.1 j).1 (λe=>z o d e.symm (by rw[b];rfl))).trans j,r⟩
 ·exact Ai i λg c a=>k g c (λe=>o e.symm) a
end
namespace Tw.Rf
variable{n:Nat}{s:RS}
theorem Qc:∀ {n:Nat} {l:List RC} {a:List (Nat×Nat)} {r:List RC×Bool},Hn n l a=some r->r.1.length=l.length
 |0,_,_,_,h=>by simp[Hn]at h
 |n+1,l,[],r,h=>by simp[Hn]at h;subst h;rfl
 |n+1,l,q::a,r,h=>by
  rw[Hn]at h;obtain⟨x,_,h⟩:=zbE.1 h;obtain⟨y,_,h⟩:=zbE.1 h;split at h
  ·exact Qc h
  ·obtain⟨p,_,h⟩:=zbE.1 h;obtain⟨z,_,h⟩:=zbE.1 h;split at h
   ·simpa using Qc h
   ·split at h
    ·simpa using Qc h
    ·split at h
     ·cases h;rfl
     ·simpa using Qc h
theorem Jn:∀ {n:Nat} {mk:List Bool} {k:Nat} {l:List RC} {cp:List (Option Nat)} {r:Nat×List RC×List (Option Nat)},Jr n mk k l cp=some r->l.length<=r.2.1.length/\r.2.2.length=cp.length
 |0,_,_,_,_,_,h=>by simp[Jr]at h
 |n+1,mk,k,l,cp,r,h=>by
  rw[Jr]at h;obtain⟨x,_,h⟩:=zbE.1 h;split at h
  ·cases h;exact⟨znL _,rfl⟩
  ·obtain⟨o,_,h⟩:=zbE.1 h;cases o with
   |some c=>cases h;exact⟨znL _,rfl⟩
   |none=>
    dsimp only at h;obtain⟨t,_,h⟩:=zbE.1 h;split at h
    ·cases h;simp
    ·split at h
     ·obtain⟨f,b,h⟩:=zbE.1 h;obtain⟨i,d,h⟩:=zbE.1 h;have a:=Jn b;have j:=Jn d;cases h;simp at a ⊢;omega
     ·cases h;simp
theorem zn5{F:List Nat}{k:Nat}{l:List RC}{r:Nat×List RC}(h:Bg n F k l=some r):l.length<=r.2.length:=by
 unfold Bg at h;obtain⟨mk,_,h⟩:=zbE.1 h;obtain⟨q,a,h⟩:=zbE.1 h
 have:=(Jn a).1;cases h;exact this
theorem Ff{a b:Nat}{c:RS}(h:Re n a b s=some c):c.l.length=s.l.length:=by
 unfold Re at h;obtain⟨r,d,h⟩:=zbE.1 h;cases h;exact Qc d
theorem zqo{e:REn}{x:List UInt8}{r:Nat×RS}(h:useS n e x s=some r):s.l.length<=r.2.l.length:=by
 unfold useS at h;split at h
 ·cases h
 ·cases h;exact znL _
 ·obtain⟨q,a,h⟩:=zbE.1 h
  have:=zn5 a;cases h;exact this
theorem Xy:∀ {n:Nat} {l:List RC} {ks:List Nat} {mk a:List Bool},freeS n l ks mk=some a->a.length=mk.length
 |0,_,_,_,_,h=>by simp[freeS]at h
 |n+1,l,[],mk,a,h=>by simp[freeS]at h;rw[h]
 |n+1,l,k::ks,mk,a,h=>by
  rw[freeS]at h;obtain⟨x,_,h⟩:=zbE.1 h;obtain⟨m,_,h⟩:=zbE.1 h;split at h
  ·exact Xy h
  ·obtain⟨c,_,h⟩:=zbE.1 h;simpa using Xy h
theorem Qx:∀ {n:Nat} {l:List RC} {st:List Int} {k:Nat} {r:Bool×List Int},Hu n l st k=some r->r.2.length=st.length
 |0,_,_,_,_,h=>by simp[Hu]at h
 |n+1,l,st,k,r,h=>by
  rw[Hu]at h;obtain⟨x,_,h⟩:=zbE.1 h;obtain⟨m,_,h⟩:=zbE.1 h;split at h
  ·cases h;rfl
  ·split at h
   ·cases h;rfl
   ·obtain⟨t,_,h⟩:=zbE.1 h;split at h
    ·obtain⟨f,c,h⟩:=zbE.1 h;have a:=Qx c;rw[jB]at a;split at h
     ·cases h;exact a
     ·obtain⟨i,d,h⟩:=zbE.1 h;have b:=Qx d;split at h
      ·cases h;exact b.trans a
      ·cases h;simp only[jB];exact b.trans a
    ·cases h;simp
theorem Di(n:Nat):∀(t:T) {e:REn} {s:RS} {r:Nat×RS},rOf n t e s=some r->s.l.length<=r.2.l.length
 |.name _ _ x,e,s,r,h=>by
  rw[rOf]at h;split at h
  ·cases h;exact znL _
  ·exact zqo h
 |.int ..,e,s,r,h|.Ak ..,e,s,r,h|.side ..,e,s,r,h=>by
  rw[rOf]at h;split at h
  ·cases h;exact znL _
  ·cases h;simp[RS.put]<;>omega
 |.bracket _ _ i,e,s,r,h=>by
  rw[rOf]at h;split at h
  ·cases h;exact znL _
  ·exact Di n i h
 |.pair _ _ a b,e,s,r,h=>by
  rw[rOf]at h;split at h
  ·cases h;exact znL _
  ·obtain⟨x,f,h⟩:=zbE.1 h;obtain⟨z,o,h⟩:=zbE.1 h;have j:=Di n a f;have q:=Di n b o;cases h;simp[RS.put];omega
 |.call _ _ a b,e,s,r,h=>by
  rw[rOf]at h;split at h
  ·cases h;exact znL _
  ·obtain⟨x,f,h⟩:=zbE.1 h;obtain⟨z,o,h⟩:=zbE.1 h;obtain⟨A,p,h⟩:=zbE.1 h;have j:=Di n a f;have q:=Di n b o;have m:=Ff p;cases h;simp[RS.put]at m ⊢;omega
 |.binary _ _ sg a b,e,s,r,h=>by
  rw[rOf]at h;split at h
  ·cases h;exact znL _
  ·obtain⟨x,f,h⟩:=zbE.1 h;obtain⟨z,o,h⟩:=zbE.1 h;obtain⟨A,p,h⟩:=zbE.1 h;obtain⟨u,y,h⟩:=zbE.1 h;have j:=Di n a f;have q:=Di n b o;have m:=Ff p;have C:=Ff y;simp[RS.put]at m;split at h<;>cases h<;>simp[RS.put]<;>omega
 |.cond _ _ c a b,e,s,r,h=>by
  rw[rOf]at h;split at h
  ·cases h;exact znL _
  ·obtain⟨x,f,h⟩:=zbE.1 h;obtain⟨A,p,h⟩:=zbE.1 h;obtain⟨z,o,h⟩:=zbE.1 h;obtain⟨v,D,h⟩:=zbE.1 h;obtain⟨u,y,h⟩:=zbE.1 h;have j:=Di n c f;have q:=Di n a o;have m:=Ff p;have C:=Di n b D;have E:=Ff y;simp[RS.put]at m;cases h;dsimp only;omega
 |.fn _ _ bn _ b,e,s,r,h=>by
  rw[rOf]at h;split at h
  ·cases h;exact znL _
  ·obtain⟨x,f,h⟩:=zbE.1 h;have j:=Di n b f;cases h;simp[RS.put]at j ⊢;omega
 |.Am fr to rc bn bat d b,e,s,r,h=>by
  rw[rOf]at h;split at h
  ·cases h;exact znL _
  ·split at h
   ·obtain⟨x,f,h⟩:=zbE.1 h;obtain⟨A,p,h⟩:=zbE.1 h;have j:=Di n d f;have q:=Ff p;have m:=Di n b h;simp[RS.put]at j;omega
   ·obtain⟨x,f,h⟩:=zbE.1 h;have j:=Di n d f;have m:=Di n b h;omega
end Tw.Rf
end
end
end Go.Proofs.YtckhafpejefbbaaGreatDoor
