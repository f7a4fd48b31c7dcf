import Derived.Test.YtckhafpejefbbaaGreatDoorB11
import Derived.Lib.AppendStr
import Derived.Laws.IdiomStrings
import Derived.Test.YtckhafpejefbbaaGreatDoorB10

set_option maxRecDepth 100000
set_option maxHeartbeats 4000000
namespace Go.Proofs.YtckhafpejefbbaaGreatDoor
section
abbrev sD:=@List.getElem?_map
end
section
open Tw Go.Proofs.Tryz
open Go.RowKit
variable{B bw lim:Nat}{S S':List TypeId}{w w':World}{sv:Value}{shown:List UInt8}
structure TK(B:Nat)(S:List TypeId)(w w':World):Prop where
 low:∀ {k:Nat},k<B->k<w.heap.size->w'.heap[k]?=w.heap[k]?
 os:w'.os=w.os
 tape:w'.tape=w.tape
 output:w'.output=w.output
 size:w.heap.size<=w'.heap.size
 cells:∀ {k:Nat} {c:Array Value} {t:TypeId} {m:Nat×Nat},w.heap[k]?=some (.cells c t m)->S.contains t=false->w'.heap[k]?=some (.cells c t m)
 other:∀ {k:Nat} {o:Obj},w.heap[k]?=some o->(∀c t m,o ≠ .cells c t m)->w'.heap[k]?=some o
theorem TK.refl(B:Nat)(S:List TypeId)(w:World):TK B S w w:=⟨λ_ _=>rfl,rfl,rfl,rfl,znL _,λh _=>h,λh _=>h⟩
theorem TK.trans{a b c:World}(h:TK B S a b)(k:TK B S b c):TK B S a c:=
 ⟨λx y=>(k.low x (aB y h.size)).trans (h.low x y),k.os.trans h.os,k.tape.trans h.tape,k.output.trans h.output,kB h.size k.size,λx y=>k.cells (h.cells x y) y,λx y=>k.other (h.other x y) y⟩
theorem TK.of_grown(B:Nat)(S:List TypeId)(h:w.grownBy w' none):TK B S w w':=
 ⟨λ_ y=>h.block _ y sM,h.os,h.tape,h.output,h.size,λx _=>zbG h x,λx _=>zbG h x⟩
theorem TK.base{a:Nat}(h:TK B S w w')(b:a<=B):TK a S w w':={h with low:=λx y=>h.low (aB x b) y}
theorem TK.grown(h:TK w.heap.size S w w'):w.grownBy w' none:=⟨h.os,h.tape,h.output,h.size,λ_ a _=>h.low a a⟩
theorem TK.mono(h:TK B S w w')(a:∀t,S'.contains t=false->S.contains t=false):TK B S' w w':=
 {h with cells:=λx y=>h.cells x (a _ y)}
theorem TK.sub(h:TK B S w w')(b:S.all (λt=>S'.contains t)=true):TK B S' w w':=
 h.mono λt c=>by
  cases a:S.contains t
  ·rfl
  ·have:=List.all_eq_true.1 b t (by simpa using a);rw[c]at this;cases this
def No(l:List UInt8):List Value:=l.map λb=>Value.int .u8 b.toNat
theorem Tryz.info5:(Tryz.prog.info? 5).map (λi=>(i.zero,i.size,i.bytes))=some (some (vU 0),1,1):=kR
structure BrAt(w:World)(bw lim:Nat)(sv:Value)(shown:List UInt8):Prop where
 cell:w.heap[bw]?=some (.cells #[.int .i64 lim,sv] 329 (0,0))
 owns:w.ownsRow bw 5 1 sv shown.length (No shown)
 ne:sv.ownBlock≠some bw
 len:shown.length<=5000
 liml:lim<=1000
abbrev WrS:List TypeId:=[329,5]
theorem BrAt.slice(h:BrAt w bw lim sv shown):∃a cap,sv=.slice a shown.length cap:=by
 rcases h.owns.2 with⟨b,c⟩|⟨g,cap,d,b,_⟩
 ·exact⟨none,0,by rw[b,c]⟩
 ·exact⟨_,_,b⟩
theorem BrAt.grown(h:BrAt w bw lim sv shown)(a:w.grownBy w' none):BrAt w' bw lim sv shown:=by
 refine{h with cell:=zbG a h.cell,owns:=⟨h.owns.1,?_⟩};rcases h.owns.2 with g|⟨d,b,c,i,e,f,j⟩
 ·exact .inl g
 ·exact .inr ⟨d,b,c,i,e,zbG a f,j⟩
theorem BrAt.tk(h:BrAt w bw lim sv shown)(a:TK B S w w')(e:S.contains 329=false)(f:S.contains 5=false):BrAt w' bw lim sv shown:=by
 refine{h with cell:=a.cells h.cell e,owns:=⟨h.owns.1,?_⟩};rcases h.owns.2 with j|⟨d,b,c,k,g,i,l⟩
 ·exact .inl j
 ·exact .inr ⟨d,b,c,k,g,a.cells i f,l⟩
theorem Xq(w:World)(lim:Nat)(a:lim<=1000):
  Calls prog 94 #[vI lim] w λe w'=>e=.returned (pT w.heap.size)/\w.grownBy w' none/\BrAt w' w.heap.size lim zN []:=by
 go_in;go_wp2_with fail;go_ret;exact⟨rfl,zwA _ _ none,Ac w _,⟨by simp[No],.inl ⟨rfl,rfl⟩⟩,by simp[Value.ownBlock],sM,a⟩
theorem Mi(h:BrAt w bw lim sv shown):
  Calls prog 171 #[pT bw] w λe w'=>e=.returned (.bool (decide (lim<shown.length)))/\w'=w.drew:=by
 obtain⟨d,a,_,_⟩:=Be h.cell;obtain⟨c,f,b⟩:=h.slice;rw[b]at a;have g:=h.len;have i:=h.liml;generalize shown.length=N at *
 go_in;go_wp2_with fail;go_region;go_wp2_with fail;go_ret;exact⟨Ei sM,rfl⟩
theorem zk8 (h:BrAt w bw lim sv shown) (hB:B<=bw) (s:ByteArray) (hs:s.size<=1000) (h0:0<s.size) :
    Calls prog 172 #[pT bw,.string s] w λe w'=>e=.returned (.tuple #[])/\TK B WrS w w'/\∃sv',BrAt w' bw lim sv' (putS lim shown s.data.toList):=by
  have H0:=bV h
  have hl:=h.liml
  clear h
  unfold putS
  by_cases hlt:lim<shown.length
  · rw [mA hlt]
    have hd:decide (lim<shown.length)=true:=by simp[hlt]
    go_in
    go_wp2_with fail
    refine(Mi (uh H0)).mono ?_
    rintro e1 w1 ⟨rfl,rfl⟩
    rw[hd]
    go_wp2_with fail
    go_end0
    exact⟨rfl,TK.of_grown _ _ (Ad (Aa _)),sv,(uh H0).grown (Ad (Aa _))⟩
  · rw [jA hlt]
    have hd:decide (lim<shown.length)=false:=by simp;omega
    obtain⟨i0,hi,hz0,hz1,hz2⟩:=info_parts Tryz.info5
    go_in
    go_wp2_with fail
    refine(Mi (uh H0)).mono ?_
    rintro e1 w1 ⟨rfl,rfl⟩
    rw[hd]
    have H1:Hid (BrAt w.drew bw lim sv shown):=(uh H0).grown (Ad (Aa _))
    obtain⟨c0,c1,f0,f1⟩:=Be H1.o.cell
    obtain⟨a,cap,hsl⟩:=H1.o.slice
    subst hsl
    have hbw:bw<w.drew.heap.size:=(zgE.1 H1.o.cell).1
    have ho:=H1.o.owns
    clear H0 hd
    have hN2:shown.length<=1000:=oM
    generalize hN:shown.length=N at *
    have HN:=bV hN
    clear hN
    have KD:Hid (TK B WrS w w.drew):=TK.of_grown _ _ (Ad (Aa _))
    generalize w.drew=w1 at *
    go_wp2_with (first
      | (at_builtin; refine Lib.wpList_append_own_string _ rfl _ _ 66 9 rfl bw 5 i0 underlying66 underlying9 hi hz0 hz1 hz2 (.slice a N cap) N (No shown) rfl ho s rfl (by unfold maxLen; omega) oM oM ?_; intro v3 w3 hown3 hgrow3 hnil3
         obtain ⟨g,cap3,rfl⟩:∃g cap3,v3 = sL g (N+s.size) cap3:=by
           rcases hown3.2 with ⟨_,hn⟩ | ⟨g,cap3,_,hv,_⟩
           · omega
           · exact ⟨g,cap3,hv⟩
         have hne:(Value.slice a N cap).ownBlock≠some bw:=H1.o.ne
         have S3:Hid (w3.heap[bw]? = some (.cells #[vI lim,.slice a N cap] 329 (0,0))):=(hgrow3.block bw oM (fun e=>hne e.symm)).trans H1.o.cell
         have K3:Hid (TK B WrS w w3):=KD.o.trans ⟨fun {k} x y=>hgrow3.block k y (fun e=>by have:=(ho.lt k e.symm).1; omega),hgrow3.os,hgrow3.tape,hgrow3.output,hgrow3.size,fun {k c t m} x y=>(hgrow3.block k (zgE.1 x).1 (fun e=>by
           rcases ho.2 with ⟨hv,_⟩ | ⟨g',cap',cur',hv,_,hh,_⟩
           · rw [hv] at e; simp [Value.ownBlock] at e
           · rw [hv] at e; simp [Value.ownBlock] at e; subst e; rw [hh] at x; cases x; simp at y)).trans x,fun {k o} x y=>(hgrow3.block k (zgE.1 x).1 (fun e=>by
           rcases ho.2 with ⟨hv,_⟩ | ⟨g',cap',cur',hv,_,hh,_⟩
           · rw [hv] at e; simp [Value.ownBlock] at e
           · rw [hv] at e; simp [Value.ownBlock] at e; subst e; rw [hh] at x; cases x; exact y _ _ _ rfl)).trans x⟩
         have gne:g≠bw:=by
           rcases hown3.2 with ⟨hv,_⟩ | ⟨g',cap',cur',hv,_,hh,_⟩
           · cases hv
           · cases hv
             intro e
             subst e
             rw [S3.o] at hh
             simp at hh
         have O3:=bV hown3
         obtain ⟨k0,k1,e0,e1⟩:=Be S3.o
         clear hgrow3 hown3 hnil3))
    go_end0
    go_light
    refine⟨rfl,?_,sL g (N+s.size) cap3,?_⟩
    · have K:=K3.o
      refine⟨λ{k} x y=>by rw[aA _ _ _ _ (by simp;omega)];exact K.low x y,K.os,K.tape,K.output,by have:=K.size;simpa using this,λ{k c t m} x y=>?_,λ{k o} x y=>?_⟩
      · by_cases hk:k=bw
        · subst hk
          have:=K.cells x y
          rw[S3.o]at this
          cases this
          simp at y
        · rw [aA _ _ _ _ (by simp; omega)]; exact K.cells x y
      · by_cases hk:k=bw
        · subst hk
          have:=K.other x y
          rw[S3.o]at this
          cases this
          exact absurd rfl (y _ _ _)
        · rw [aA _ _ _ _ (by simp; omega)]; exact K.other x y
    have hl2:(shown++s.data.toList).length=N+s.size:=by rw[eA,uh HN];rfl
    refine⟨by rw[cD _ _ _ _ _ _ S3.o];rfl,?_,by simpa[Value.ownBlock]using gne,by rw[hl2];omega,hl⟩
    rw[hl2]
    have e2:No (shown++s.data.toList)=No shown++Lib.strCells s:=by simp[No,Lib.strCells]
    rw[e2]
    have:=uh O3
    refine⟨this.1,?_⟩
    rcases this.2 with⟨hv,_⟩|⟨g',cap',cur',hv,hb,hh,rest⟩
    · cases hv
    · cases hv
      exact .inr ⟨g,cap3,cur',rfl,hb,by rw[aA _ _ _ _ (by simpa using gne)];exact hh,rest⟩
theorem Ru(w:World):(convert 66 9 zN).run prog w=.ok (ug []) w:=kR
theorem zi4(h:BrAt w bw lim sv shown):
  Calls prog 96 #[pT bw] w λe w'=>e=.returned (ug (Xd lim shown))/\w.grownBy w' none:=by
 have a:=bV h;unfold Xd;by_cases d:lim<shown.length
 ·rw[mA d];have c:decide (lim<shown.length)=true:=by simp[d]
  go_in;go_wp2_with fail;refine(Mi (uh a)).mono ?_;rintro n s ⟨rfl,rfl⟩;rw[c];go_wp2_with fail;go_ret;exact⟨rfl,Ad (Aa _)⟩
 ·rw[jA d];have c:decide (lim<shown.length)=false:=by simp;omega
  go_in;go_wp2_with fail;refine(Mi (uh a)).mono ?_;rintro n s ⟨rfl,rfl⟩;rw[c];have b:Hid (BrAt w.drew bw lim sv shown):=(uh a).grown (Ad (Aa _));obtain⟨t,v,z,A⟩:=Be b.o.cell;obtain⟨m,i,p⟩:=b.o.slice;subst p;have F:(convert 66 9 (.slice m shown.length i)).run prog w.drew=.ok (ug shown) w.drew:=by
   rcases b.o.owns.2 with⟨f,l⟩|⟨g,x,y,f,D,o,l,E,_,q⟩
   ·have:shown=[]:=List.length_eq_zero_iff.1 l;subst this;cases f;exact Ru w.drew
   ·cases f;refine run_convert_bytes_back w.drew _ _ 5 (aD g 0) i shown underlying66 underlying5 underlying9 ?_;intro j k;rw[show(Addr.add (aD g 0) j)=((aD g j):Addr)from by simp[Addr.add];omega];rw[mB _ _ _ _ _ _ o]
    have:=congrArg (λr=>r[j]?) q;simp only[Nat.mul_one,List.getElem?_take,k,if_true,No,sD,fA k,Option.map_some]at this;simpa using this
  generalize C:shown.length=N at *;go_wp2_with fail;go_ret;exact⟨rfl,Ad (Aa _)⟩
end
section
open Tw
open Go.RowKit
variable{B bs g cap:Nat}{S:List TypeId}{w w':World}{cur:Array Value}{st:Tw.SS}
theorem RowAt.zbe(h:RowAt w bs g cap cur st)(a:UK bs g w w')(b:S.contains 128=true)(d:S.contains 334=true)(f:B<=bs):TK B S w w':=by
 refine⟨λ{k} x y=>a.block k y oM (by have:=h.low;omega),a.os,a.tape,a.output,a.size,λ{k c t m} x y=>?_,λ{k o} x y=>?_⟩
 ·refine a.at x (λe=>?_) (λe=>?_)
  ·subst e;rw[h.solver]at x;cases x;rw[b]at y;cases y
  ·subst e;rw[h.row]at x;cases x;rw[d]at y;cases y
 ·refine a.at x (λe=>?_) (λe=>?_)
  ·subst e;rw[h.solver]at x;cases x;exact absurd rfl (y _ _ _)
  ·subst e;rw[h.row]at x;cases x;exact absurd rfl (y _ _ _)
theorem RowAt.tk(h:RowAt w bs g cap cur st)(a:TK B S w w')(b:S.contains 128=false)(c:S.contains 334=false):RowAt w' bs g cap cur st:=
 {h with solver:=a.cells h.solver b,row:=a.cells h.row c}
end
section
open Tw
open Go.RowKit
theorem Sol.zi5{B:Nat}{S:List TypeId}{w b:World}{bs:Nat}{st:SS}(i:Sol w bs st)(a:SK bs w b)(f:S.contains 128=true)(g:S.contains 334=true)(o:B<=bs):TK B S w b:=by
 obtain⟨n,l,m,h⟩:=i;refine⟨λ{k} x y=>a.block k y oM (.inl oM),a.os,a.tape,a.output,a.size,λ{k c t p} x y=>?_,λ{k q} x y=>?_⟩
 ·refine a.at x (λe=>?_) (λd j e=>?_)
  ·subst e;rw[h.solver]at x;cases x;rw[f]at y;cases y
  ·cases e;rw[g]at y;cases y
 ·refine a.at x (λe=>?_) (λd j e=>?_)
  ·subst e;rw[h.solver]at x;cases x;exact absurd rfl (y _ _ _)
  ·cases e;exact absurd rfl (y _ _ _)
def ss0:Tw.SS:=⟨[⟨1,0,0,0⟩,⟨2,0,0,1⟩],false⟩
end
end Go.Proofs.YtckhafpejefbbaaGreatDoor
namespace Go.Proofs.YtckhafpejefbbaaGreatDoor.Tw
section
open Go Go.RowKit
structure TW where
 st:SS
 vars:List Nat
 acc:List UInt8
def Fc(k:Nat):List UInt8:=39::UInt8.ofNat (97+k % 26)::(if 0<k / 26 then Lib.itoa (k / 26:Nat)else[])
def idxS(r:Nat):List Nat->Nat->Option Nat
 |[],_=>none
 |x::l,i=>if r=x then some i else idxS r l (i+1)
def Np(a:List Nat)(r:Nat):Option (Nat×List Nat):=
 match idxS r a 0 with
 |some i=>some (i,a)
 |none=>if a.length<=2000 then some (a.length,a++[r])else none
def Jq(n:Nat)(st:SS)(r:Nat):Option (Int×SS):=(Ga n st r).bind λp=>(p.2.shs[p.1]?).bind λx=>some (x.sort,p.2)
mutual
def Dr:Nat->TW->Nat->Option TW
 |0,_,_=>none
 |n+1,t,r=>if 400<t.acc.length then some t else(Ga n t.st r).bind λp=>(p.2.shs[p.1]?).bind λx=>
  if x.sort=0 then(Np t.vars p.1).bind λk=>some ⟨p.2,k.2,putS 400 t.acc (Fc k.1)⟩
  else if x.sort=1 then some ⟨p.2,t.vars,putS 400 t.acc [105,110,116]⟩
  else if x.sort=2 then some ⟨p.2,t.vars,putS 400 t.acc [98,111,111,108]⟩
  else if x.sort=3 then(Jq n p.2 x.left).bind λq=>(Ns n ⟨q.2,t.vars,t.acc⟩ x.left (q.1==3)).bind λu=>
   Dr n ⟨u.st,u.vars,putS 400 u.acc [32,45,62,32]⟩ x.right
  else if x.sort=4 then(Jq n p.2 x.left).bind λq=>(Ns n ⟨q.2,t.vars,t.acc⟩ x.left (q.1==3||q.1==4)).bind λu=>
   (Jq n u.st x.right).bind λv=>Ns n ⟨v.2,u.vars,putS 400 u.acc [32,42,32]⟩ x.right (v.1==3||v.1==4)
  else some ⟨p.2,t.vars,t.acc⟩
def Ns:Nat->TW->Nat->Bool->Option TW
 |0,_,_,_=>none
 |n+1,t,r,b=>if b then(Dr n ⟨t.st,t.vars,putS 400 t.acc [40]⟩ r).bind λu=>some ⟨u.st,u.vars,putS 400 u.acc [41]⟩else Dr n t r
end
def ofS(fuel:Nat)(t:T):Option (Option (List UInt8)):=
 (Ax fuel t .nil ⟨[⟨1,0,0,0⟩,⟨2,0,0,1⟩],false⟩).bind λa=>if a.2.clash then some none else(Mu fuel a.2).bind λb=>if b.1 then some none else
  (Dr fuel ⟨b.2,[],[]⟩ a.1).bind λc=>some (some (Xd 400 c.acc))
end
end Go.Proofs.YtckhafpejefbbaaGreatDoor.Tw
namespace Go.Proofs.YtckhafpejefbbaaGreatDoor
section
open Tw Go.Proofs.Tryz
open Go.RowKit
variable{w:World}{base:Nat}{vv:Value}{vars:List Nat}
theorem Ow(u:Nat)(h:u<100):(Lib.decDigits u).length<=2:=by
 unfold Lib.decDigits;split
 ·simp
 ·unfold Lib.decDigits;rw[dif_pos oM];simp
def Said.ItoaSmall:Prop:=∀(i:Nat) (_:i<100) (w:World),Calls prog 211 #[.int .i64 i] w λe a=>e=.returned (ug (Lib.decDigits i))/\w=a
theorem zi6(w:World):∀k:Nat,k<26->(convert 21 9 (.int .i32 (97+(k:Int)))).run prog w=.ok (ug [UInt8.ofNat (97+k)]) w
 |0,_=>kR
 |1,_=>kR
 |2,_=>kR
 |3,_=>kR
 |4,_=>kR
 |5,_=>kR
 |6,_=>kR
 |7,_=>kR
 |8,_=>kR
 |9,_=>kR
 |10,_=>kR
 |11,_=>kR
 |12,_=>kR
 |13,_=>kR
 |14,_=>kR
 |15,_=>kR
 |16,_=>kR
 |17,_=>kR
 |18,_=>kR
 |19,_=>kR
 |20,_=>kR
 |21,_=>kR
 |22,_=>kR
 |23,_=>kR
 |24,_=>kR
 |25,_=>kR
 |n+26,h=>absurd h oM
theorem zbf(k:Nat)(w:World):(convert 21 9 (.int .i32 (97+(k:Int) % 26))).run prog w=.ok (ug [UInt8.ofNat (97+k % 26)]) w:=by
 have:=zi6 w (k % 26) oM;rw[show((k % 26:Nat):Int)=(k:Int) % 26 from oM]at this;exact this
theorem Tc(h:Said.ItoaSmall)(k:Nat)(r:k<2600)(w:World):Calls prog 179 #[vI k] w λe n=>e=.returned (ug (Fc k))/\w=n:=by
 have m:=zbf k;obtain⟨c,a⟩:∃c,[UInt8.ofNat (97+k % 26)]=c:=⟨_,rfl⟩;simp only[a]at m;have j:c.length=1:=by rw[<-a];rfl
 have s:c.toArray.size=1:=by simpa using j
 have b:=bV a;by_cases p:k<26
 ·have l:¬(0:Int)<(k:Int) / 26:=oM
  go_in;go_wp2_with fail;go_ret;refine⟨?_,rfl⟩;have e:ug (Fc k)=Value.string ({data:=#[39]} ++ {data:=c.toArray}):=by
   rw[Fc,jA oM,<-uh b];rfl
  rw[e];rfl
 ·have l:(0:Int)<(k:Int) / 26:=oM;have f:Hid (((k:Int) / 26)=((k / 26:Nat):Int)):=by show _=_;omega
  have d:k / 26<100:=oM;have i:=Ow (k / 26) d
  go_in;go_wp2_with fail;rw[uh f];refine(h (k / 26) d w).mono ?_;rintro o t ⟨rfl,rfl⟩;have q:(Lib.decDigits (k / 26)).toArray.size<=2:=by simpa using i
  go_wp2_with fail;go_ret;refine⟨?_,rfl⟩;have e:ug (Fc k)=Value.string (({data:=#[39]} ++ {data:=c.toArray}) ++ {data:=(Lib.decDigits (k / 26)).toArray}):=by
   have g:Lib.itoa ((k / 26:Nat):Int)=Lib.decDigits (k / 26):=by
    unfold Lib.itoa;rw[jA oM];rfl
   rw[Fc,mA oM,g,<-uh b];show Value.string _=Value.string _;congr 1
  rw[e];rfl
structure VarsAt(w:World)(base:Nat)(vv:Value)(vars:List Nat):Prop where
 owns:w.ownsRow base 124 1 vv vars.length (vars.map fun(x:Nat)=>Value.int .i64 x)
 few:vars.length<=2001
theorem VarsAt.slice(h:VarsAt w base vv vars):∃a cap,vv=.slice a vars.length cap:=by
 rcases h.owns.2 with⟨b,c⟩|⟨g,cap,d,b,_⟩
 ·exact⟨none,0,by rw[b,c]⟩
 ·exact⟨_,_,b⟩
theorem VarsAt.cell{a:Option Addr}{n cap:Nat}(h:VarsAt w base (.slice a n cap) vars){i:Nat}(hi:i<vars.length):∃g,a=some (aD g 0)/\n=vars.length/\w.cell? (aD g i)=some (vI vars[i]):=by
 rcases h.owns.2 with⟨_,c⟩|⟨g,f,j,e,k,b,c,m,_,d⟩
 ·omega
 ·cases e;refine⟨g,rfl,rfl,?_⟩;rw[mB _ _ _ _ _ _ b]
  have:=congrArg (λl=>l[i]?) d;simp only[Nat.mul_one,List.getElem?_take,hi,if_true,sD,fA hi,Option.map_some]at this;simpa using this
theorem Td(r:Nat):∀(l:List Nat) (i:Nat),(∃k,idxS r l i=some k/\i<=k/\k<i+l.length/\l[k-i]?=some r/\∀j,j<k-i->l[j]? ≠ some r)\/(idxS r l i=none/\∀j,j<l.length->l[j]? ≠ some r)
 |[],i=>.inr ⟨rfl,sM⟩
 |x::l,i=>by
  by_cases h:r=x
  ·exact .inl ⟨i,by simp[idxS,h],oM,sM,by simp[h],oM⟩
  ·rcases Td r l (i+1)with⟨k,a,b,g,d,f⟩|⟨a,b⟩
   ·refine .inl ⟨k,by simp[idxS,h,a],oM,by simp;omega,?_,λj c=>?_⟩
    ·rw[show k-i=(k-(i+1))+1 from oM,List.getElem?_cons_succ];exact d
    ·cases j with
     |zero=>simpa using λe=>h e.symm
     |succ j=>rw[List.getElem?_cons_succ];exact f j oM
   ·refine .inr ⟨by simp[idxS,h,a],λj c=>?_⟩;cases j with
    |zero=>simpa using λe=>h e.symm
    |succ j=>rw[List.getElem?_cons_succ];exact b j (by simpa using c)
theorem zgy(h:VarsAt w base vv vars)(r:Nat):
  Calls prog 212 #[vv,vI r] w λe L=>e=.returned (vI (match idxS r vars 0 with|some i=>(i:Int)|none=>-1))/\w=L:=by
 obtain⟨M,S,rfl⟩:=h.slice;have v:=bV h;have B:=h.few;have Q:prog.cellsOf 124=1:=kR;obtain⟨R,p⟩:∃R,(match idxS r vars 0 with|some i=>(i:Int)|none=>-1)=R:=⟨_,rfl⟩;rw[p];have l:=bV p;have m:=bV (Td r vars 0);obtain⟨N,o⟩:∃N,vars.length=N:=⟨_,rfl⟩;rw[o]at B ⊢;have j:=bV o
 go_in;go_wp2_with fail;go_loopg[8] N (λJ I wr=>wr=w/\∃q:Nat,J+q=N/\I=vI q/\Hid (∀i,i<q->vars[i]? ≠ some r))
 case atStart=>exact⟨rfl,0,oM,rfl,λi C=>oM⟩
 case round=>
  obtain⟨H,q,V,rfl,d⟩:=hrel;subst H;by_cases F:q<N
  ·have c:q<vars.length:=(by rw[uh j];exact F);obtain⟨T,rfl,W,U⟩:=(uh v).cell c;have Y:(q:Int)<(N:Int):=oM;by_cases g:vars[q]=r
   ·have z:((r:Int)==(vars[q]:Int))=true:=(by simp[g]);have X:Hid (R=q):=by
     have t:vars[q]?=some r:=(by rw[fA c,g]);rcases uh m with⟨k,a,b,A,f,n⟩|⟨a,b⟩
     ·have E:k=q:=by
       have O:¬k<q:=λs=>uh d k s (by simpa using f);have P:¬q<k:=λs=>n q oM t;omega
      show R=_;rw[<-uh l,a,E]
     ·exact absurd t (b q c)
    generalize (vars[q]:Nat)=x at *;go_wp2_with fail;go_ret;exact⟨Ej (by rw[uh X]),rfl⟩
   ·have z:((r:Int)==(vars[q]:Int))=false:=(by simp;omega);have y:Hid (∀i,i<q+1->vars[i]? ≠ some r):=λi C=>by
     by_cases D:i<q
     ·exact uh d i D
     ·have:i=q:=oM;subst this;rw[fA c];simpa using g
    generalize (vars[q]:Nat)=x at *;go_wp2_with fail;go_roundg (gk-1)
    case measure=>omega
    case rel=>exact⟨rfl,q+1,oM,by go_num,y⟩
  ·have G:q=N:=oM;have X:Hid (R = -1):=by
    show R=_;rcases uh m with⟨k,a,b,A,f,n⟩|⟨a,b⟩
    ·exact absurd (by simpa using f) (uh d k (by rw[G,<-uh j];omega))
    ·rw[<-uh l,a]
   go_wp2_with fail;go_ret;exact⟨Ej (by rw[uh X]),rfl⟩
end
section
abbrev vB:=@List.map_append
end
section
open Tw Go.Proofs.Tryz
open Go.RowKit
variable{B base bt bw bs:Nat}{S:List TypeId}{w w':World}{vv:Value}{vars:List Nat}
theorem TK.zmq{k n:Nat}{T:TypeId}{v:Value}{m:List Value}(f:w.ownsRow base T k v n m)(a:w.grownBy w' v.ownBlock)(o:B<=base)(l:S.contains T=true):TK B S w w':=by
 refine⟨λ{i} x y=>a.block i y (λe=>by have:=(f.lt i e.symm).1;omega),a.os,a.tape,a.output,a.size,λ{i c t p} x y=>(a.block i (zgE.1 x).1 (λe=>?_)).trans x,λ{i q} x y=>(a.block i (zgE.1 x).1 (λe=>?_)).trans x⟩
 ·rcases f.2 with⟨b,_⟩|⟨j,g,h,b,_,d,_⟩
  ·rw[b]at e;simp[Value.ownBlock]at e
  ·rw[b]at e;simp[Value.ownBlock]at e;subst e;rw[d]at x;cases x;rw[l]at y;cases y
 ·rcases f.2 with⟨b,_⟩|⟨j,g,h,b,_,d,_⟩
  ·rw[b]at e;simp[Value.ownBlock]at e
  ·rw[b]at e;simp[Value.ownBlock]at e;subst e;rw[d]at x;cases x;exact y _ _ _ rfl
theorem TK.setAt{b j:Nat}{c:Array Value}{t:TypeId}{m:Nat×Nat}(d:w.heap[b]?=some (.cells c t m))(g:B<=b)(e:S.contains t=true)(v:Value):TK B S w (w.setCell (aD b j) v):=by
 refine⟨λ{k} x y=>aA _ _ _ _ (by simp;omega),rfl,rfl,rfl,sM,λ{k f i h} x y=>?_,λ{k o} x y=>?_⟩
 ·by_cases a:k=b
  ·subst a;rw[d]at x;cases x;rw[e]at y;cases y
  ·rw[aA _ _ _ _ (by simp;omega)];exact x
 ·by_cases a:k=b
  ·subst a;rw[d]at x;cases x;exact absurd rfl (y _ _ _)
  ·rw[aA _ _ _ _ (by simp;omega)];exact x
theorem Tryz.info124:(Tryz.prog.info? 124).map (λi=>(i.zero,i.size,i.bytes))=some (some (vI 0),1,8):=kR
structure TwAt(w:World)(bt bw bs:Nat)(vv:Value)(vars:List Nat):Prop where
 cell:w.heap[bt]?=some (.cells #[.pointer (some ⟨bw,0,none⟩),.pointer (some ⟨bs,0,none⟩),vv] 245 (0,0))
 vars:VarsAt w bt vv vars
 ne:vv.ownBlock≠some bt
abbrev NumS:List TypeId:=[245,124]
theorem VarsAt.tk(h:VarsAt w base vv vars)(f:TK B S w w')(d:S.contains 124=false):VarsAt w' base vv vars:=by
 refine{h with owns:=⟨h.owns.1,?_⟩};rcases h.owns.2 with i|⟨c,a,b,j,e,g,k⟩
 ·exact .inl i
 ·exact .inr ⟨c,a,b,j,e,f.cells g d,k⟩
theorem TwAt.tk(h:TwAt w bt bw bs vv vars)(a:TK B S w w')(b:S.contains 245=false)(c:S.contains 124=false):TwAt w' bt bw bs vv vars:=
 {h with cell:=a.cells h.cell b,vars:=h.vars.tk a c}
theorem TwAt.grown(h:TwAt w bt bw bs vv vars)(a:w.grownBy w' none):TwAt w' bt bw bs vv vars:=h.tk (TK.of_grown 0 [] a) rfl rfl
theorem Zr(w:World)(a:Value)(t:TypeId):∀j u,[a][j]?=some u->(w.alloc (.cells #[a] t)).cell? (((aD w.heap.size 0):Addr).add j)=some u:=by
 intro j u h
 match j,h with
 |0,h=>
  simp at h;subst h;show(w.alloc _).cell? (aD w.heap.size 0)=_;rw[mB _ _ _ _ _ _ (Ac w _)];rfl
theorem zbg {vars':List Nat} (h:TwAt w bt bw bs vv vars) (hB:B<=bt) {r i:Nat} (hf:Np vars r=some (i,vars')) :
    Calls prog 180 #[pT bt,vI r] w λe w'=>e=.returned (vI i)/\TK B NumS w w'/\∃vv',TwAt w' bt bw bs vv' vars':=by
  have H0:=bV h
  obtain⟨a,cap,rfl⟩:=h.vars.slice
  obtain⟨c0,c1,c2,_,_,f2⟩:=An h.cell
  have hbt:bt<w.heap.size:=(zgE.1 h.cell).1
  have HI:=bV (zgy h.vars r)
  unfold Np at hf
  cases hix:idxS r vars 0 with
  |some k=>
    rw[hix]at hf HI
    simp only[zsI,zpI]at hf
    obtain⟨rfl,rfl⟩:=hf
    dsimp only at HI
    clear h hix
    go_in
    go_wp2_with fail
    refine(uh HI).mono ?_
    rintro e1 w1 ⟨rfl,rfl⟩
    have hk0:(0:Int)<=(k:Int):=oM
    go_wp2_with fail
    go_ret
    exact⟨rfl,TK.refl _ _ _,_,uh H0⟩
  |none=>
    rw[hix]at hf HI
    dsimp only at hf HI
    split at hf
    rotate_left
    · cases hf
    rename_i hlen
    simp only[zsI,zpI]at hf
    obtain⟨rfl,rfl⟩:=hf
    obtain⟨i0,hi,hz0,hz1,hz2⟩:=info_parts Tryz.info124
    have ho:=h.vars.owns
    clear h hix
    generalize hN:vars.length=N at *
    have HN:=bV hN
    clear hN
    go_in
    go_wp2_with fail
    refine(uh HI).mono ?_
    rintro e1 w1 ⟨rfl,rfl⟩
    go_wp2_with (first
      | (at_builtin; refine wpList_append_own _ rfl _ _ 243 rfl bt 124 i0 (vI 0) 1 8 underlying243 hi hz0 hz1 hz2 rfl dZ (.slice a N cap) N (vars.map fun (x:Nat)=>vI x) rfl (ho.alloc _) (aD w.heap.size 0) 1 1 [vI r] rfl rfl (Zr _ _ _) (by intro u hu; simp at hu; rcases hu with rfl; rfl) (by unfold maxLen; omega) oM (by simp; omega) ?_; intro v3 w3 hown3 hgrow3 hnil3
         obtain ⟨g,cap3,rfl⟩:∃g cap3,v3 = sL g (N+1) cap3:=by
           rcases hown3.2 with ⟨_,hn⟩ | ⟨g,cap3,_,hv,_⟩
           · omega
           · exact ⟨g,cap3,hv⟩
         have hne:(Value.slice a N cap).ownBlock≠some bt:=H0.o.ne
         have S3:Hid (w3.heap[bt]? = some (.cells #[pT bw,pT bs,.slice a N cap] 245 (0,0))):=(hgrow3.block bt (by simp; omega) (fun e=>hne e.symm)).trans (Ly H0.o.cell _)
         have K3:Hid (TK B NumS w w3):=(TK.of_grown _ _ (zwA w _ none)).trans (TK.zmq (ho.alloc _) hgrow3 hB dZ)
         have gne:g≠bt:=by
           rcases hown3.2 with ⟨hv,_⟩ | ⟨g',cap',cur',hv,_,hh,_⟩
           · cases hv
           · cases hv
             intro e
             subst e
             rw [S3.o] at hh
             simp at hh
         have O3:=bV hown3
         obtain ⟨k0,k1,k2,e0,e1,e2⟩:=An S3.o
         clear hgrow3 hown3 hnil3))
    go_ret
    go_light
    refine⟨by go_num,K3.o.trans (TK.setAt S3.o hB dZ _),sL g (N+1) cap3,?_⟩
    have hl:(vars++[r]).length=N+1:=by simp[HN.o]
    refine⟨by rw[cD _ _ _ _ _ _ S3.o];rfl,⟨?_,by rw[hl];omega⟩,by simpa[Value.ownBlock]using gne⟩
    rw[hl,vB]
    have:=uh O3
    refine⟨this.1,?_⟩
    rcases this.2 with⟨hv,_⟩|⟨g',cap',cur',hv,hb,hh,rest⟩
    · cases hv
    · cases hv
      exact .inr ⟨g,cap3,cur',rfl,hb,by rw[aA _ _ _ _ (by simpa using gne)];exact hh,rest⟩
end
section
open Tw Go.Proofs.Tryz
open Go.RowKit
variable{g B bs cap bt bw fuel r:Nat}{w w':World}{cur:Array Value}{st st1:Tw.SS}{vv:Value}{vars:List Nat}{so:Int}
def WrtAt(w:World)(bt bw bs g cap:Nat)(t:TW):Prop:=∃vv a cur,TwAt w bt bw bs vv t.vars/\BrAt w bw 400 a t.acc/\RowAt w bs g cap cur t.st
abbrev WtS:List TypeId:=[128,334,329,5,245,124]
abbrev SolS:List TypeId:=[128,334]
structure KG(g:Nat)(w w':World):Prop where
 keep:∀ {k:Nat} {c:Array Value} {m:Nat×Nat},k≠g->w.heap[k]?=some (.cells c 334 m)->w'.heap[k]?=some (.cells c 334 m)
theorem KG.trans{a b c:World}(h:KG g a b)(k:KG g b c):KG g a c:=⟨λn x=>k.keep n (h.keep n x)⟩
theorem KG.of_grown(h:w.grownBy w' none):KG g w w':=⟨λ_ x=>zbG h x⟩
theorem KG.zmd{S:List TypeId}(h:TK B S w w')(a:S.contains 334=false):KG g w w':=⟨λ_ x=>h.cells x a⟩
theorem KG.of_uk(a:RowAt w bs g cap cur st)(h:UK bs g w w'):KG g w w':=⟨λ{k c m} n x=>h.at x (λe=>by subst e;rw[a.solver]at x;simp at x) n⟩
theorem Te:∀(n:Nat) {st st':SS} {r p:Nat},Ga n st r=some (p,st')->st'.shs.length=st.shs.length
 |0,_,_,_,_,h=>by simp[Ga]at h
 |n+1,st,st',r,p,h=>by
  rw[Ga]at h;split at h
  ·cases h
  ·split at h
   ·cases h;rfl
   ·split at h
    ·cases h
    ·have:=Te n h;simpa[Bh]using this
theorem zds(j:TwAt w bt bw bs vv vars)(i:RowAt w bs g cap cur st)(D:B<=bs)
    (b:Jq fuel st r=some (so,st1)) :
    Calls prog 182 #[pT bt,vI r] w λe w'=>e=.returned (vI so)/\TK B SolS w w'/\KG g w w'/\∃y,RowAt w' bs g cap y st1:=by
  unfold Jq at b;simp only[zbE,zsI,zpI]at b;obtain⟨⟨p,Q⟩,k,R,m,rfl,rfl⟩:=b;have s:=bV j;have d:=bV i;have q:=bV k;have t:=bV m;have l:=Te _ k;dsimp only at l m;have h:=bV i.drew;obtain⟨E,F,G,_,_,_⟩:=An (show w.drew.heap[bt]?=_ from j.cell);obtain⟨I,J,_,_⟩:=Be (uh h).solver;have H:prog.cellsOf 334=4:=kR
  go_in;go_wp2_with fail
  go_region_with
    ((go_at_call 177;refine(Hu (uh h) (uh q)).mono ?_;rintro A n ⟨rfl,c,z,a⟩;have v:=bV a;have f:Hid (TK B SolS w n):=(TK.of_grown _ _ (Ad (Aa _))).trans ((uh d).drew.zbe c dZ dZ D);have x:=bV ((uh s).tk (uh f) dZ dZ);have o:Hid (KG g w n):=(KG.of_grown (Ad (Aa _))).trans (KG.of_uk (uh d).drew c);obtain⟨L,A,M,_,_,_⟩:=An (uh x).cell;obtain⟨C,N,_,_⟩:=Be a.solver;rw[l]at C;obtain⟨P,S,T,U,V⟩:=a.sh (uh t);have O:(p:Int)<(st.shs.length:Int):=oM;clear c a))
  all_goals (go_wp2_with fail;go_ret;exact⟨rfl,f.o,o.o,z,v.o⟩)
theorem Yk(q:TwAt w bt bw bs vv vars)(o:RowAt w bs g cap cur st)(O:B<=bs)
    (c:Jq fuel st r=some (so,st1)) :
    Calls prog 183 #[pT bt,vI r] w λe w'=>e=.returned (.bool (so==3||so==4))/\TK B SolS w w'/\KG g w w'/\∃J,RowAt w' bs g cap J st1:=by
  unfold Jq at c;simp only[zbE,zsI,zpI]at c;obtain⟨⟨p,a2⟩,s,x,v,rfl,rfl⟩:=c;have F:=bV q;have i:=bV o;have D:=bV s;have G:=bV v;have f:=Te _ s;dsimp only at f v;have l:=bV o.drew;obtain⟨P,Q,R,_,_,_⟩:=An (show w.drew.heap[bt]?=_ from q.cell);obtain⟨T,U,_,_⟩:=Be (uh l).solver;have S:prog.cellsOf 334=4:=kR;obtain⟨h,t⟩:∃h,(x.sort==3||x.sort==4)=h:=⟨_,rfl⟩;rw[t];have E:Hid (Mt x=h):=t
  go_in;go_wp2_with fail
  go_region_with
    (first
      |(go_at_call 177;refine(Hu (uh l) (uh D)).mono ?_;rintro n y ⟨rfl,d,L,b⟩;have I:=bV b;have j:Hid (TK B SolS w y):=(TK.of_grown _ _ (Ad (Aa _))).trans ((uh i).drew.zbe d dZ dZ O);have m:=bV ((uh F).tk (uh j) dZ dZ);have A:Hid (KG g w y):=(KG.of_grown (Ad (Aa _))).trans (KG.of_uk (uh i).drew d);obtain⟨V,n,W,_,_,_⟩:=An (uh m).cell;obtain⟨M,f1,_,_⟩:=Be b.solver;rw[f]at M;obtain⟨a1,x0,x1,x2,x3⟩:=b.sh (uh G);have a0:(p:Int)<(st.shs.length:Int):=oM;clear d b)
      |(go_at_call 178;refine(Rt x _).mono ?_;rintro n z ⟨rfl,a⟩;rw[uh E];have H:Hid (TK B SolS w z):=j.o.trans (TK.of_grown _ _ a);have C:Hid (KG g w z):=A.o.trans (KG.of_grown a);have k:=bV ((uh I).grown a);obtain⟨X,Y,Z,_,_,_⟩:=An ((uh m).grown a).cell;obtain⟨N,f4,_,_⟩:=Be (uh k).solver;rw[f]at N;clear a))
  all_goals (go_wp2_with fail;go_ret;exact⟨rfl,H.o,C.o,L,k.o⟩)
end
section
open Tw Go.Proofs.Tryz
open Go.RowKit
variable{r k B bt bw bs g cap n:Nat}{w:World}{t:Tw.TW}
def zkv(B bt bw bs g cap:Nat)(w:World)(b:TW)(e:Ending)(a:World):Prop:=e=.returned (.tuple #[])/\(TK B WtS w a/\KG g w a)/\WrtAt a bt bw bs g cap b
def zar(n:Nat):Prop:=∀ {w:World} {B bt bw bs g cap:Nat} {t a:TW} {r:Nat},WrtAt w bt bw bs g cap t->B<=bt->B<=bw->B<=bs->Dr n t r=some a ->
 Calls prog 107 #[.pointer (some ⟨bt,0,none⟩),.int .i64 r] w (zkv B bt bw bs g cap w a)
def ze2(n:Nat):Prop:=∀ {w:World} {B bt bw bs g cap:Nat} {t a:TW} {r:Nat} {b:Bool},WrtAt w bt bw bs g cap t->B<=bt->B<=bw->B<=bs->Ns n t r b=some a ->
 Calls prog 181 #[.pointer (some ⟨bt,0,none⟩),.int .i64 r,.bool b] w (zkv B bt bw bs g cap w a)
theorem zdt{b c:List Nat}(h:Np b r=some (k,c))(e:b.length<=2001):k<2600:=by
 unfold Np at h;rcases Td r b 0 with⟨i,a,_,d,_⟩|⟨a,_⟩
 ·rw[a]at h;cases h;omega
 ·rw[a]at h;dsimp only at h;split at h
  ·cases h;omega
  ·cases h
theorem Ju(h:k<2600):(Fc k).length<=4/\0<(Fc k).length:=by
 unfold Fc;split
 ·have:Lib.itoa ((k / 26:Nat):Int)=Lib.decDigits (k / 26):=by
   unfold Lib.itoa;rw[jA oM];rfl
  rw[this]
  have:=Ow (k / 26) oM;simp;omega
 ·simp
theorem Ki(h:WrtAt w bt bw bs g cap t)(d:B<=bw)(s:ByteArray)(l:s.size<=1000)(c:0<s.size):
  Calls prog 172 #[pT bw,.string s] w (zkv B bt bw bs g cap w ⟨t.st,t.vars,putS 400 t.acc s.data.toList⟩):=by
 obtain⟨o,q,b,f,i,e⟩:=h;refine(zk8 i d s l c).mono ?_;rintro p v ⟨rfl,a,m,j⟩;exact⟨rfl,⟨a.sub dZ,KG.zmd a dZ⟩,o,m,b,f.tk a dZ dZ,j,e.tk a dZ dZ⟩
theorem WrtAt.cells(h:WrtAt w bt bw bs g cap t):∃a,w.heap[bt]?=some (.cells #[pT bw,pT bs,a] 245 (0,0)):=by
 obtain⟨a,d,c,b,_,_⟩:=h;exact⟨a,b.cell⟩
theorem WrtAt.grown{b:World}(h:WrtAt w bt bw bs g cap t)(a:w.grownBy b none):WrtAt b bt bw bs g cap t:=by
 obtain⟨j,i,c,e,f,d⟩:=h;exact⟨j,i,c,e.grown a,f.grown a,d.grown a⟩
theorem zgz(q:zar n):ze2 (n+1):=by
 intro w B bt bw bs g cap t D r x m o d p c;rw[Ns]at c;have i:=bV m;obtain⟨F,h⟩:=m.cells;obtain⟨y,z,_,_,_,_⟩:=An h;cases x with
 |false=>
  simp only[xA,if_false]at c;have e:=bV c
  go_in;go_wp2_with fail;refine(q (uh i) o d p (uh e)).mono ?_;rintro f C ⟨rfl,a⟩;have K:=bV a;go_wp2_with fail;go_end0;exact⟨rfl,uh K⟩
 |true=>
  simp only[if_true,zbE,zsI]at c;obtain⟨E,A,rfl⟩:=c;have e:=bV A
  go_in;go_wp2_with fail;refine(Ki (uh i) d ⟨#[40]⟩ (by simp[ByteArray.size]) (by simp[ByteArray.size])).mono ?_;rintro f C ⟨rfl,a,b⟩;have j:=bV a;have s:=bV b;go_wp2_with fail;refine(q (uh s) o d p (uh e)).mono ?_;rintro f H ⟨rfl,a,b⟩;have l:=bV (And.intro ((uh j).1.trans a.1) ((uh j).2.trans a.2));have v:=bV b;obtain⟨G,h⟩:=b.cells;obtain⟨y,z,_,_,_,_⟩:=An h;go_wp2_with fail;refine(Ki (uh v) d ⟨#[41]⟩ (by simp[ByteArray.size]) (by simp[ByteArray.size])).mono ?_;rintro f I ⟨rfl,a,b⟩;have X:=bV (And.intro (And.intro ((uh l).1.trans a.1) ((uh l).2.trans a.2)) b);go_wp2_with fail;go_end0;exact⟨rfl,uh X⟩
theorem zdu(hIt:Said.ItoaSmall)(hW:zar n)(hP:ze2 n):zar (n+1):=by
  intro w B bt bw bs g cap t t' r h h1 h2 h3 hf;rw[Dr]at hf;have HH:=bV h;obtain⟨vv,sv,cur,hT,hB,hR⟩:=h;obtain⟨c0,c1,_,_,_,_⟩:=An hT.cell;have T0:=bV hT;have B0:=bV hB;have R0:=bV hR;by_cases hfull:400<t.acc.length
  · rw[mA hfull]at hf
    cases hf;have hd:decide (400<t.acc.length)=true:=(by simp[hfull]);have HD:=bV hd
    go_in;go_wp2_with fail;refine(Mi (uh B0)).mono ?_;rintro e1 w1 ⟨rfl,rfl⟩;rw[uh HD];go_wp2_with fail;go_end0;exact⟨rfl,⟨TK.of_grown _ _ (Ad (Aa _)),KG.of_grown (Ad (Aa _))⟩,(uh HH).grown (Ad (Aa _))⟩
  rw[jA hfull]at hf;simp only[zbE]at hf;obtain⟨⟨p,st1⟩,hfi,x,hx,hf⟩:=hf;dsimp only at hx hf;have HF:=bV hfi;have HX:=bV hx;have hd:decide (400<t.acc.length)=false:=by simp;omega
  have HD:=bV hd;have c237:prog.cellsOf 334=4:=kR;have hcase:x.sort=0\/x.sort=1\/x.sort=2\/x.sort=3\/x.sort=4\/(x.sort≠0/\x.sort≠1/\x.sort≠2/\x.sort≠3/\x.sort≠4):=oM;have hbt:bt<w.heap.size:=(zgE.1 (uh T0).cell).1;rcases hcase with hs|hs|hs|hs|hs|⟨hs0,hs1,hs2,hs3,hs4⟩
  all_goals
    first
      |(simp only[hs,if_true,Int.reduceEq,if_false,zsI]at hf)
      |(simp only[hs0,hs1,hs2,hs3,hs4,if_false,zsI]at hf)
    have HG:=bV hf
    first
      |(
          have s0:=congrArg (λz:Int=>z==0) hs;have s1:=congrArg (λz:Int=>z==1) hs;have s2:=congrArg (λz:Int=>z==2) hs;have s3:=congrArg (λz:Int=>z==3) hs;have s4:=congrArg (λz:Int=>z==4) hs;simp only[Int.reduceBEq]at s0 s1 s2 s3 s4)
      |(
          have s0:(x.sort==0)=false:=(by simp[hs0]);have s1:(x.sort==1)=false:=(by simp[hs1]);have s2:(x.sort==2)=false:=(by simp[hs2]);have s3:(x.sort==3)=false:=(by simp[hs3]);have s4:(x.sort==4)=false:=by simp[hs4])
    first
      |clear hs
      |clear hs0 hs1 hs2 hs3 hs4
    go_in;go_wp2_with fail;refine(Mi (uh B0)).mono ?_;rintro e1 w' ⟨rfl,rfl⟩;rw[uh HD];have T1:Hid (TwAt w.drew bt bw bs vv t.vars):=(uh T0).grown (Ad (Aa _));obtain⟨d0,d1,_,_,_,_⟩:=An (uh T1).cell;go_wp2_with fail;refine(Hu (uh R0).drew (uh HF)).mono ?_;rintro e1 w1 ⟨rfl,hk,cur1,hR1⟩;have R1:=bV hR1;have K1:Hid (TK B SolS w w1):=(TK.of_grown _ _ (Ad (Aa _))).trans ((uh R0).drew.zbe hk dZ dZ h3);have G1:Hid (KG g w w1):=(KG.of_grown (Ad (Aa _))).trans (KG.of_uk (uh R0).drew hk);have W1:Hid (WrtAt w1 bt bw bs g cap ⟨st1,t.vars,t.acc⟩):=⟨vv,sv,cur1,(uh T0).tk (uh K1) dZ dZ,(uh B0).tk (uh K1) dZ dZ,hR1⟩;have T2:=bV ((uh T0).tk (uh K1) dZ dZ);obtain⟨e0,e1,_,_,_,_⟩:=An (uh T2).cell;have hbt1:bt<w1.heap.size:=(zgE.1 (uh T2).cell).1;obtain⟨hpl,x0,x1,x2,x3⟩:=hR1.sh (uh HX);obtain⟨t0,_,_,_⟩:=Be hR1.solver;have hpi:(p:Int)<(st1.shs.length:Int):=oM;have hm:=hR1.many;have hgl:g<w1.heap.size:=(zgE.1 (uh R1).row).1;have A2:Hid (w1.grownBy (w1.alloc (.cells #[vI x.sort,vI x.left,vI x.right,vI x.same] 334)) none):=zwA _ _ none;have K2:Hid (TK B WtS w (w1.alloc (.cells #[vI x.sort,vI x.left,vI x.right,vI x.same] 334))/\KG g w (w1.alloc (.cells #[vI x.sort,vI x.left,vI x.right,vI x.same] 334))):=⟨((uh K1).sub dZ).trans (TK.of_grown _ _ A2.o),G1.o.trans (KG.of_grown A2.o)⟩;have W2:=bV ((uh W1).grown A2.o);have N2:Hid ((w1.alloc (.cells #[vI x.sort,vI x.left,vI x.right,vI x.same] 334)).heap[w1.heap.size]?=some (.cells #[vI x.sort,vI x.left,vI x.right,vI x.same] 334 (0,0))):=Ac _ _;go_wp2_with fail
  · have hg':=HG.o
    simp only[zbE,zsI]at hg';obtain⟨⟨k,vars'⟩,hn,rfl⟩:=hg';have HN:=bV hn;obtain⟨vv2,sv2,cur2,hT2,hB2,hR2⟩:=uh W2;have HK:=bV (zdt hn hT2.vars.few);have T2:=bV (hT2.grown (Ad (Aa _)));obtain⟨f0,f1,f2,_,_,_⟩:=An (uh T2).cell;have B2:=bV hB2;have R2:=bV hR2;generalize w1.alloc (.cells #[vI x.sort,vI x.left,vI x.right,vI x.same] 334)=wa at *;go_region_held3 (λW=>W.cell? (aD bt 0)=some (pT bw)) (go_keep)
      (first
        |(go_at_call 180;refine(zbg (uh T2) h1 (uh HN)).mono ?_;rintro e1 w3 ⟨rfl,hk,vv3,hT3⟩;have T3:=bV hT3;have K3:Hid (TK B WtS w w3/\KG g w w3):=⟨(uh K2).1.trans ((TK.of_grown _ _ (Ad (Aa _))).trans (hk.sub dZ)),(uh K2).2.trans ((KG.of_grown (Ad (Aa _))).trans (KG.zmd hk dZ))⟩;have B3:=bV (((uh B2).grown (Ad (Aa _))).tk hk dZ dZ);have R3:=bV ((uh R2).drew.tk hk dZ dZ);obtain⟨k0,k1,k2,_,_,_⟩:=An hT3.cell;clear hk hT3)
        |(go_at_call 179;refine(Tc hIt k (uh HK) _).mono ?_;rintro e1 w4 ⟨rfl,rfl⟩)
        |(go_at_call 172;refine(Ki (t:=⟨st1,vars',t.acc⟩) ⟨vv3,sv2,cur2,uh T3,uh B3,uh R3⟩ h2 ⟨(Fc k).toArray⟩ (by have:=(Ju (uh HK)).1;simp[ByteArray.size];omega) (by have:=(Ju (uh HK)).2;simpa[ByteArray.size]using this)).mono ?_;rintro e1 w5 ⟨rfl,hk,hw⟩;have X:=bV (And.intro (And.intro ((uh K3).1.trans hk.1) ((uh K3).2.trans hk.2)) hw);obtain⟨vv4,hc⟩:=hw.cells;obtain⟨m0,m1,m2,_,_,_⟩:=An hc;clear hk hw hc))
    go_wp2_with fail;go_end0;exact⟨rfl,uh X⟩
  · cases HG.o
    refine(Ki (uh W2) h2 ⟨#[105,110,116]⟩ (by simp[ByteArray.size]) (by simp[ByteArray.size])).mono ?_;rintro e1 w3 ⟨rfl,hk,hw⟩;have X:=bV (And.intro (And.intro ((uh K2).1.trans hk.1) ((uh K2).2.trans hk.2)) hw);go_wp2_with fail;go_end0;exact⟨rfl,uh X⟩
  · cases HG.o
    refine(Ki (uh W2) h2 ⟨#[98,111,111,108]⟩ (by simp[ByteArray.size]) (by simp[ByteArray.size])).mono ?_;rintro e1 w3 ⟨rfl,hk,hw⟩;have X:=bV (And.intro (And.intro ((uh K2).1.trans hk.1) ((uh K2).2.trans hk.2)) hw);go_wp2_with fail;go_end0;exact⟨rfl,uh X⟩
  · have hg':=HG.o
    simp only[zbE]at hg';obtain⟨⟨so,st2⟩,hn,u,hu,hv⟩:=hg';dsimp only at hu hv;have HN:=bV hn;have HU:=bV hu;have HV:=bV hv;obtain⟨vv2,sv2,cur2,hT2,hB2,hR2⟩:=uh W2;have T2:=bV (hT2.grown (Ad (Aa _)));have B2:=bV (hB2.grown (Ad (Aa _)));have R2:=bV hR2.drew;have hgne:w1.heap.size≠g:=oM;have NE:=bV hgne;generalize w1.alloc (.cells #[vI x.sort,vI x.left,vI x.right,vI x.same] 334)=wa at *;generalize w1.heap.size=wb at *;have KD:Hid (TK B WtS w wa.drew/\KG g w wa.drew):=⟨(uh K2).1.trans (TK.of_grown _ _ (Ad (Aa _))),(uh K2).2.trans (KG.of_grown (Ad (Aa _)))⟩;have ND:Hid (wa.drew.heap[wb]?=some (.cells #[vI x.sort,vI x.left,vI x.right,vI x.same] 334 (0,0))):=uh N2;obtain⟨y0,y1,y2,y3⟩:=B7 (uh ND);go_region_held3 (λW=>W.cell? (aD wb 1)=some (vI x.left)) (go_keep)
      (first
        |(go_at_call 182;refine(zds (uh T2) (uh R2) h3 (uh HN)).mono ?_;rintro e1 w3 ⟨rfl,hk,hkg,cur3,hR3⟩;have K3:Hid (TK B WtS w w3/\KG g w w3):=⟨(uh KD).1.trans (hk.sub dZ),(uh KD).2.trans hkg⟩;have W3:Hid (WrtAt w3 bt bw bs g cap ⟨st2,t.vars,t.acc⟩):=⟨vv2,sv2,cur3,(uh T2).tk hk dZ dZ,(uh B2).tk hk dZ dZ,hR3⟩;have N3:=bV (hkg.keep (uh NE) (uh ND));obtain⟨z0,z1,z2,z3⟩:=B7 (uh N3);clear hk hkg hR3)
        |(go_at_call 181;refine(hP (uh W3) h1 h2 h3 (uh HU)).mono ?_;rintro e1 w4 ⟨rfl,hk,hw⟩;have K4:Hid (TK B WtS w w4/\KG g w w4):=⟨(uh K3).1.trans hk.1,(uh K3).2.trans hk.2⟩;have W4:=bV hw;have N4:=bV (hk.2.keep (uh NE) (uh N3));obtain⟨v0,v1,v2,v3⟩:=B7 (uh N4);obtain⟨vv4,hc⟩:=hw.cells;obtain⟨m0,m1,m2,_,_,_⟩:=An hc;clear hk hw hc))
    go_wp2_with fail;refine(Ki (uh W4) h2 ⟨#[32,45,62,32]⟩ (by simp[ByteArray.size]) (by simp[ByteArray.size])).mono ?_;rintro e1 w5 ⟨rfl,hk,hw⟩;have K5:Hid (TK B WtS w w5/\KG g w w5):=⟨(uh K4).1.trans hk.1,(uh K4).2.trans hk.2⟩;have W5:=bV hw;obtain⟨u0,u1,u2,u3⟩:=B7 (hk.2.keep (uh NE) (uh N4));go_wp2_with fail;refine(hW (uh W5) h1 h2 h3 (uh HV)).mono ?_;rintro e1 w6 ⟨rfl,hk,hw⟩;have X:=bV (And.intro (And.intro ((uh K5).1.trans hk.1) ((uh K5).2.trans hk.2)) hw);go_wp2_with fail;go_end0;exact⟨rfl,uh X⟩
  · have hg':=HG.o
    simp only[zbE]at hg';obtain⟨⟨so,st2⟩,hn,u,hu,⟨so2,st3⟩,hn2,hv⟩:=hg';dsimp only at hu hv;have HN:=bV hn;have HU:=bV hu;have HN2:=bV hn2;have HV:=bV hv;obtain⟨vv2,sv2,cur2,hT2,hB2,hR2⟩:=uh W2;have T2:=bV (hT2.grown (Ad (Aa _)));have B2:=bV (hB2.grown (Ad (Aa _)));have R2:=bV hR2.drew;have hgne:w1.heap.size≠g:=oM;have NE:=bV hgne;generalize w1.alloc (.cells #[vI x.sort,vI x.left,vI x.right,vI x.same] 334)=wa at *;generalize w1.heap.size=wb at *;have KD:Hid (TK B WtS w wa.drew/\KG g w wa.drew):=⟨(uh K2).1.trans (TK.of_grown _ _ (Ad (Aa _))),(uh K2).2.trans (KG.of_grown (Ad (Aa _)))⟩;have ND:Hid (wa.drew.heap[wb]?=some (.cells #[vI x.sort,vI x.left,vI x.right,vI x.same] 334 (0,0))):=uh N2;obtain⟨y0,y1,y2,y3⟩:=B7 (uh ND);go_region_held3 (λW=>W.cell? (aD wb 1)=some (vI x.left)) (go_keep)
      (first
        |(go_at_call 183;refine(Yk (uh T2) (uh R2) h3 (uh HN)).mono ?_;rintro e1 w3 ⟨rfl,hk,hkg,cur3,hR3⟩;have K3:Hid (TK B WtS w w3/\KG g w w3):=⟨(uh KD).1.trans (hk.sub dZ),(uh KD).2.trans hkg⟩;have W3:Hid (WrtAt w3 bt bw bs g cap ⟨st2,t.vars,t.acc⟩):=⟨vv2,sv2,cur3,(uh T2).tk hk dZ dZ,(uh B2).tk hk dZ dZ,hR3⟩;have N3:=bV (hkg.keep (uh NE) (uh ND));obtain⟨z0,z1,z2,z3⟩:=B7 (uh N3);clear hk hkg hR3)
        |(go_at_call 181;refine(hP (uh W3) h1 h2 h3 (uh HU)).mono ?_;rintro e1 w4 ⟨rfl,hk,hw⟩;have K4:Hid (TK B WtS w w4/\KG g w w4):=⟨(uh K3).1.trans hk.1,(uh K3).2.trans hk.2⟩;have W4:=bV hw;have N4:=bV (hk.2.keep (uh NE) (uh N3));obtain⟨v0,v1,v2,v3⟩:=B7 (uh N4);obtain⟨vv4,hc⟩:=hw.cells;obtain⟨m0,m1,m2,_,_,_⟩:=An hc;clear hk hw hc))
    go_wp2_with fail;refine(Ki (uh W4) h2 ⟨#[32,42,32]⟩ (by simp[ByteArray.size]) (by simp[ByteArray.size])).mono ?_;rintro e1 w5 ⟨rfl,hk,hw⟩;have K5:Hid (TK B WtS w w5.drew/\KG g w w5.drew):=⟨((uh K4).1.trans hk.1).trans (TK.of_grown _ _ (Ad (Aa _))),((uh K4).2.trans hk.2).trans (KG.of_grown (Ad (Aa _)))⟩;obtain⟨vv5,sv5,cur5,hT5,hB5,hR5⟩:=hw;have T5:=bV (hT5.grown (Ad (Aa _)));have B5:=bV (hB5.grown (Ad (Aa _)));have R5:=bV hR5.drew;have N5:Hid (w5.drew.heap[wb]?=some (.cells #[vI x.sort,vI x.left,vI x.right,vI x.same] 334 (0,0))):=hk.2.keep (uh NE) (uh N4);obtain⟨u0,u1,u2,u3⟩:=B7 (uh N5);go_wp2_with fail;go_region_held3 (λW=>W.cell? (aD wb 2)=some (vI x.right)) (go_keep)
      (first
        |(go_at_call 183;refine(Yk (uh T5) (uh R5) h3 (uh HN2)).mono ?_;rintro e1 w6 ⟨rfl,hk,hkg,cur6,hR6⟩;have K6:Hid (TK B WtS w w6/\KG g w w6):=⟨(uh K5).1.trans (hk.sub dZ),(uh K5).2.trans hkg⟩;have W6:Hid (WrtAt w6 bt bw bs g cap ⟨st3,u.vars,putS 400 u.acc [32,42,32]⟩):=⟨vv5,sv5,cur6,(uh T5).tk hk dZ dZ,(uh B5).tk hk dZ dZ,hR6⟩;have N6:=bV (hkg.keep (uh NE) (uh N5));obtain⟨z0,z1,z2,z3⟩:=B7 (uh N6);clear hk hkg hR6)
        |(go_at_call 181;refine(hP (uh W6) h1 h2 h3 (uh HV)).mono ?_;rintro e1 w7 ⟨rfl,hk,hw⟩;have X:=bV (And.intro (And.intro ((uh K6).1.trans hk.1) ((uh K6).2.trans hk.2)) hw);obtain⟨v0,v1,v2,v3⟩:=B7 (hk.2.keep (uh NE) (uh N6));clear hk hw))
    go_wp2_with fail;go_end0;exact⟨rfl,uh X⟩
  · cases HG.o
    go_end0;exact⟨rfl,uh K2,uh W2⟩
theorem Pm(a:Said.ItoaSmall):∀n,zar n/\ze2 n
 |0=>⟨λ_ _ _ _ h=>by simp[Dr]at h,λ_ _ _ _ h=>by simp[Ns]at h⟩
 |n+1=>⟨zdu a (Pm a n).1 (Pm a n).2,zgz (Pm a n).1⟩
theorem zi7(s:Said.ItoaSmall){o:Array Value}{st:SS}(c:RowAt w bs g cap o st){u:TW}(y:Dr n ⟨st,[],[]⟩ r=some u)(p:B<=bs):
  Calls prog 55 #[pT bs,vI r] w λe A=>e=.returned (ug (Xd 400 u.acc))/\TK B WtS w A:=by
 have l:=bV c;have i:=bV y;have G:bs<w.heap.size:=(zgE.1 c.solver).1
 go_in;go_wp2_with fail;refine(Xq w 400 oM).mono ?_;rintro b J ⟨rfl,a,x⟩;have h:=bV a;have d:=bV x;have m:=bV ((uh l).grown a);have M:=a.size;go_wp2_with fail;refine((Pm s n).1 (B:=B) (t:=⟨st,[],[]⟩) ⟨_,_,_,⟨Ac _ _,⟨⟨sM,.inl ⟨rfl,rfl⟩⟩,sM⟩,by simp[Value.ownBlock]⟩,(uh d).grown (zwA _ _ none),(uh m).grown (zwA _ _ none)⟩ oM oM p (uh i)).mono ?_;rintro b C ⟨rfl,z,I,H,D,v,q,F⟩;have j:Hid (TK B WtS w C):=(TK.of_grown _ _ (Ai (uh h) _)).trans z.1;have f:=bV q;obtain⟨E,b,_,_,_,_⟩:=An v.cell;go_wp2_with fail;refine(zi4 (uh f)).mono ?_;rintro b L ⟨rfl,a⟩;go_wp2_with fail;go_ret;exact⟨rfl,(uh j).trans (TK.of_grown _ _ a)⟩
end
section
open Tw Go.Proofs.Tryz
open Go.RowKit
def ofV:Option (List UInt8)->Value
 |none=>.tuple #[ug [],.bool false]
 |some s=>.tuple #[ug s,.bool true]
theorem zi8(P:Said.ItoaSmall){w:World}{hi:Nat}{t:Tw.T}{tv:Value}(C:Rep w 0 hi t tv){fuel:Nat}{D:Option (List UInt8)}(a:ofS fuel t=some D):
  Calls prog 34 #[tv] w λe R=>e=.returned (ofV D)/\TK w.heap.size WtS w R:=by
 unfold ofS at a;simp only[zbE]at a;obtain⟨⟨Q,F⟩,M,a⟩:=a;dsimp only at a;have s:=bV C;have r:Hid (Ax fuel t .nil ss0=some (Q,F)):=M;obtain⟨T,U,rfl⟩:=C.iface;by_cases m:F.clash=true
 ·rw[mA m]at a;cases a;have q:=bV m
  go_in;go_wp2_with fail;refine(Ln w).mono ?_;rintro g o ⟨rfl,h,c⟩;have i:=bV h;have f:=bV c;have k:=bV ((uh s).grown h (znL _) (znL _));go_wp2_with fail;refine((Jt fuel).1 (uh f) (uh k) (show EnvAt o hi .nil (.pointer none)from rfl) (uh r)).mono ?_;rintro g p ⟨rfl,b,c⟩;have j:Hid (TK w.heap.size WtS w p):=(TK.of_grown _ _ (uh i)).trans ((uh f).zi5 b dZ dZ (znL _));obtain⟨B,z,A,d⟩:=c;obtain⟨E,n,_,_⟩:=Be d.solver;rw[uh q]at n;go_wp2_with fail
  go_ret2;exact⟨rfl,j.o⟩
 rw[jA m]at a;simp only[Bool.not_eq_true]at m;have q:=bV m;simp only[zbE]at a;obtain⟨⟨L,V⟩,N,a⟩:=a;dsimp only at a;have y:=bV N;cases L with
 |true=>
  simp only[if_true,zsI]at a;subst a
  go_in;go_wp2_with fail;refine(Ln w).mono ?_;rintro g o ⟨rfl,h,c⟩;have i:=bV h;have f:=bV c;have k:=bV ((uh s).grown h (znL _) (znL _));go_wp2_with fail;refine((Jt fuel).1 (uh f) (uh k) (show EnvAt o hi .nil (.pointer none)from rfl) (uh r)).mono ?_;rintro g p ⟨rfl,b,c⟩;have j:Hid (TK w.heap.size WtS w p):=(TK.of_grown _ _ (uh i)).trans ((uh f).zi5 b dZ dZ (znL _));obtain⟨B,z,A,d⟩:=c;have l:=bV d;obtain⟨E,n,_,_⟩:=Be d.solver;rw[uh q]at n;go_wp2_with fail;refine(Uj (uh l) (uh y)).mono ?_;rintro g x ⟨rfl,b,J,d⟩;have v:Hid (TK w.heap.size WtS w x):=(uh j).trans ((uh l).zbe b dZ dZ (znL _));go_wp2_with fail
  go_ret2;exact⟨rfl,v.o⟩
 |false=>
  simp only[xA,if_false,zbE,zsI]at a;obtain⟨W,O,rfl⟩:=a;have G:=bV O
  go_in;go_wp2_with fail;refine(Ln w).mono ?_;rintro g o ⟨rfl,h,c⟩;have i:=bV h;have f:=bV c;have k:=bV ((uh s).grown h (znL _) (znL _));go_wp2_with fail;refine((Jt fuel).1 (uh f) (uh k) (show EnvAt o hi .nil (.pointer none)from rfl) (uh r)).mono ?_;rintro g p ⟨rfl,b,c⟩;have j:Hid (TK w.heap.size WtS w p):=(TK.of_grown _ _ (uh i)).trans ((uh f).zi5 b dZ dZ (znL _));obtain⟨B,z,A,d⟩:=c;have l:=bV d;obtain⟨E,n,_,_⟩:=Be d.solver;rw[uh q]at n;go_wp2_with fail;refine(Uj (uh l) (uh y)).mono ?_;rintro g x ⟨rfl,b,J,d⟩;have v:Hid (TK w.heap.size WtS w x):=(uh j).trans ((uh l).zbe b dZ dZ (znL _));have I:=bV d;go_wp2_with fail;refine(zi7 P (uh I) (uh G) (znL _)).mono ?_;rintro g S ⟨rfl,b⟩;have H:Hid (TK w.heap.size WtS w S):=(uh v).trans b;go_wp2_with fail
  go_ret2;exact⟨rfl,H.o⟩
end
end Go.Proofs.YtckhafpejefbbaaGreatDoor
