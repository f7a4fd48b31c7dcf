import Derived.Test.YtckhafpejefbbaaGreatDoorB13
import Derived.Lib.LaidTab
import Derived.Lib.Small

set_option maxRecDepth 100000
set_option maxHeartbeats 4000000
namespace Go.Proofs.YtckhafpejefbbaaGreatDoor
section
open Tw Go.Proofs.Tryz
open Go.RowKit
section
variable {B:Nat}
variable{w:World}{bw:Nat}{sv p:Value}{shown:List UInt8}{T:TypeId}{x:Tw.Val}
theorem zaf(p:Value)(w:World):Sem.run prog (Instr.typeAssert (.iface 196 p) 119 196 true) w=.ok (.tuple #[p,.bool true]) w:=kR
theorem zb5(p:Value)(w:World):Sem.run prog (Instr.typeAssert (.iface 203 p) 119 196 true) w=.ok (.tuple #[.bool false,.bool false]) w:=kR
theorem zb6(p:Value)(w:World):Sem.run prog (Instr.typeAssert (.iface 315 p) 119 196 true) w=.ok (.tuple #[.bool false,.bool false]) w:=kR
theorem zd9(p:Value)(w:World):Sem.run prog (Instr.typeAssert (.iface 216 p) 119 196 true) w=.ok (.tuple #[.bool false,.bool false]) w:=kR
def Tab(w:World):Prop:=Lib.TabIs Tryz.prog w "internal/strconv.uint64pow10" .u64 Lib.pow10Tab
def Ew.Nf:Prop:=∀(n:Int) (_ :-9223372036854775808<=n) (_:n<=9223372036854775807) (w:World) (_:Tab w),
 Calls prog 173 #[.int .i64 n,.int .i64 10] w λe a=>e=.returned (ug (Lib.itoa n))/\w.grownBy a none
def Ew.Lg:Prop:=∀(b:Bool) (w:World),Calls prog 174 #[.bool b] w λe a=>e=.returned (ug (La b))/\w=a
theorem E8:∀(k u:Nat),u<10 ^ (k+1)->0<(Lib.decDigits u).length/\(Lib.decDigits u).length<=k+1
 |0,u,h=>by
  unfold Lib.decDigits;rw[dif_pos (by simpa using h)];simp
 |k+1,u,h=>by
  unfold Lib.decDigits;split
  ·simp
  ·have:=E8 k (u / 10) (by rw[Nat.pow_succ]at h;omega);simp;omega
theorem zpu{n:Int}(a :-9223372036854775808<=n)(b:n<=9223372036854775807):0<(Lib.itoa n).length/\(Lib.itoa n).length<=1000:=by
 unfold Lib.itoa;split
 ·have:=E8 19 n.natAbs oM;simp;omega
 ·have:=E8 19 n.toNat oM;omega
theorem zvk:Tryz.prog.globalNamed "internal/strconv.uint64pow10"=some 1:=by kernel_rfl
theorem Tab.tk{S:List TypeId}{w':World}(h:Tab w)(d:TK B S w w')(c:1<B):Tab w':=by
 have a:w.var? Tryz.prog "internal/strconv.uint64pow10"=_:=h;show w'.var? Tryz.prog "internal/strconv.uint64pow10"=_;unfold World.var? at a ⊢;rw[zvk]at a ⊢;simp[Option.bind_some]at a ⊢;have e:1<w.heap.size:=by
  rcases yB 1 w.heap.size with b|b
  ·exact b
  ·rw[Array.getElem?_eq_none b]at a;simp at a
 rw[d.low c e];exact a
theorem Lf.tkS{S:List TypeId}{w w':World}{d:List Nat}(c:TK B S w w')(a:([362,317,218]++Su).all (λt=>!S.contains t)=true):∀ {e:Cr} {v:Value},Lf w d e v->Lf w' d e v
 |[],_,h=>h
 |(n,k)::o,_,⟨b,vo,bs,hv,hl,hb,ho⟩=>⟨b,vo,bs,hv,hl,c.cells hb (by have:=List.all_eq_true.1 a 362 sM;simpa using this),Lf.tkS c a ho⟩
theorem Ex.tkS{S:List TypeId}{w w':World}{d:List Nat}(c:TK B S w w')(a:([362,317,218]++Su).all (λt=>!S.contains t)=true):∀ {x:Val} {v:Value},Ex w d x v->Ex w' d x v
 |.num _,_,h=>h
 |.Ak _,_,h=>h
 |.side _,_,h=>h
 |.pair _ _,_,⟨b,v1,v2,hv,hb,h1,h2⟩=>⟨b,v1,v2,hv,c.cells hb (by have:=List.all_eq_true.1 a 317 sM;simpa using this),Ex.tkS c a h1,Ex.tkS c a h2⟩
 |.clo ..,_,⟨b,fb,ev,v1,hi,hv,hb,hf,hr,he⟩=>by
  have hK:=c.kp (by rw[List.all_append]at a;exact(Bool.and_eq_true_iff.1 a).2);exact⟨b,fb,ev,v1,hi,hv,c.cells hb (by have:=List.all_eq_true.1 a 218 sM;simpa using this),hK _ _ _ _ hf dZ,hr.kp hK,he.tkS c a⟩
def Vg(B:Nat)(w:World)(bw:Nat)(shown:zU)(e:Ending)(w':World):Prop:=e=.returned (.tuple #[])/\TK B WrS w w'/\∃a,Ro w' bw 400 a shown
def Ye(B:Nat)(x:Val):Prop:=∀ {w:World} {bw:Nat} {sv:Value} {shown:zU} {v:Value} {a:List Nat},Ex w a x v->Ro w bw 400 sv shown->Tab w->B<=bw->1<B->Calls prog 95 #[.pointer (some ⟨bw,0,none⟩),v] w (Vg B w bw (Gk x shown))
theorem Lp(a:Ro w bw 400 sv shown)(c:400<shown.length):Calls prog 95 #[pT bw,.iface T p] w (Vg B w bw shown):=by
 have b:decide (400<shown.length)=true:=by simp[c]
 go_in;go_wp21;go_call H9 a as e1 w1 ⟨rfl,rfl⟩;rw[b];go_wp21;go_end0;exact⟨rfl,TK.Ae _ _ (Ad (Aa _)),sv,a.grown (Ad (Aa _))⟩
theorem zjd(l:Ew.Nf)(n:Int):Ye B (.num n):=by
 intro w bw sv shown v t r a o k m;obtain⟨rfl,c,d⟩:=r;unfold Gk;split
 ·rename_i b;exact Lp a b
 ·rename_i b;have q:decide (400<shown.length)=false:=by simpa using b
  have i:=a.grown (Ad (Aa w));have h:=o.tk (TK.Ae B [] (Ad (Aa w))) m;have s:=zac;have e:=zpu c d;go_in;go_wp21;go_call H9 a as e1 w1 ⟨rfl,rfl⟩;rw[q];have f:w.grownBy w.drew none:=Ad (Aa _);generalize w.drew=w1 at *;go_wp21;go_call l n c d w1 h as e1 w2 ⟨rfl,hg⟩;have j:=i.grown hg;have g:=Ab f hg;go_wp21;go_call Qn j k ⟨(Lib.itoa n).toArray⟩ (by simpa[ByteArray.size]using e.2) (by simpa[ByteArray.size]using e.1) as e1 w3 ⟨rfl,hk,sv',hW'⟩;have X:Vg B w bw (Ei 400 shown (Lib.itoa n)) (.returned (.tuple #[])) w3:=⟨rfl,(TK.Ae _ _ g).trans hk,sv',by simpa using hW'⟩;go_wp21;go_end0;exact X
theorem zea(g:Ew.Lg)(n:Bool):Ye B (.Ak n):=by
 intro w bw sv shown v m i a k f j;obtain rfl:v=_:=i;unfold Gk;split
 ·rename_i b;exact Lp a b
 ·rename_i b;have h:decide (400<shown.length)=false:=by simpa using b
  have e:=a.grown (Ad (Aa w));have q:=Vs;have l:=zaf;have c:0<(La n).length/\(La n).length<=1000:=by cases n<;>decide
  go_in;go_wp21;go_call H9 a as e1 w1 ⟨rfl,rfl⟩;rw[h];have d:w.grownBy w.drew none:=Ad (Aa _);generalize w.drew=w1 at *;go_wp21;go_call g n w1 as e1 w2 ⟨rfl,rfl⟩;go_wp21;go_call Qn e f ⟨(La n).toArray⟩ (by simpa[ByteArray.size]using c.2) (by simpa[ByteArray.size]using c.1) as e1 w3 ⟨rfl,hk,sv',hW'⟩;have X:Vg B w bw (Ei 400 shown (La n)) (.returned (.tuple #[])) w3:=⟨rfl,(TK.Ae _ _ d).trans hk,sv',by simpa using hW'⟩;go_wp21;go_end0;exact X
theorem zag{j k:Value}{a b:Bool}(l:∀w:World,Sem.run prog (Instr.typeAssert (.iface T p) 119 192 true) w=.ok (.tuple #[vI 0,.bool false]) w)
  (m:∀w:World,Sem.run prog (Instr.typeAssert (.iface T p) 119 196 true) w=.ok (.tuple #[.bool false,.bool false]) w) (n:∀w:World,Sem.run prog (Instr.typeAssert (.iface T p) 119 315 true) w=.ok (.tuple #[.pointer none,.bool false]) w)
  (o:∀w:World,Sem.run prog (Instr.typeAssert (.iface T p) 119 216 true) w=.ok (.tuple #[j,.bool a]) w) (q:∀w:World,Sem.run prog (Instr.typeAssert (.iface T p) 119 203 true) w=.ok (.tuple #[k,.bool b]) w)
  (g:(a=true/\b=false)\/(a=false/\b=true)) (c:Ro w bw 400 sv shown) (i:¬400<shown.length) (f:B<=bw):Calls prog 95 #[pT bw,.iface T p] w (Vg B w bw (Ei 400 shown [102,117,110])):=by
 have h:decide (400<shown.length)=false:=by simpa using i
 have e:=c.grown (Ad (Aa w));rcases g with⟨rfl,rfl⟩|⟨rfl,rfl⟩<;>(
  go_in;go_wp21;go_call H9 c as e1 w1 ⟨rfl,rfl⟩;rw[h];have d:w.grownBy w.drew none:=Ad (Aa _);generalize w.drew=w1 at *;go_wp21;go_call Qn e f ⟨#[102,117,110]⟩ (by simp[ByteArray.size]) (by simp[ByteArray.size]) as e1 w3 ⟨rfl,hk,sv',hW'⟩;have X:Vg B w bw (Ei 400 shown [102,117,110]) (.returned (.tuple #[])) w3:=⟨rfl,(TK.Ae _ _ d).trans hk,sv',by simpa using hW'⟩;go_wp21;go_end0;exact X)
theorem zga{y:Val}(r:Ye B x)(s:Ye B y):Ye B (.pair x y):=by
 intro w bw sv shown J I v e g a d;obtain⟨C,L,M,rfl,h,i,j⟩:=v;unfold Gk;split
 ·rename_i f;exact Lp e f
 ·rename_i f;have t:decide (400<shown.length)=false:=by simpa using f
  have n:=e.grown (Ad (Aa w));obtain⟨z,D,rfl⟩:=Ex.iface i;obtain⟨A,E,rfl⟩:=Ex.iface j;have F:=Yw;have G:=zb6;have H:=Vv;go_in;go_wp21;go_call H9 e as e1 w1 ⟨rfl,rfl⟩;rw[t];have k:w.grownBy w.drew none:=Ad (Aa _);generalize w.drew=w1 at *;go_wp21;go_call Qn n a ⟨#[40]⟩ (by simp[ByteArray.size]) (by simp[ByteArray.size]) as e1 w2 ⟨rfl,hk,sv2,hW2⟩;have b:=(TK.Ae _ _ k).trans hk;have⟨o,q,_,_⟩:=A8 (b.cells h dZ);go_wp21;go_call r (i.tkS b dZ) hW2 (g.tk b d) a d as e1 w3 ⟨rfl,hk,sv3,hW3⟩;have l:TK B WrS w w3:=b.trans hk;go_wp21;go_call Qn hW3 a ⟨#[44,32]⟩ (by simp[ByteArray.size]) (by simp[ByteArray.size]) as e1 w4 ⟨rfl,hk,sv4,hW4⟩;have c:=l.trans hk;have⟨o,q,_,_⟩:=A8 (c.cells h dZ);go_wp21;go_call s (j.tkS c dZ) hW4 (g.tk c d) a d as e1 w5 ⟨rfl,hk,sv5,hW5⟩;have m:=c.trans hk;go_wp21;go_call Qn hW5 a ⟨#[41]⟩ (by simp[ByteArray.size]) (by simp[ByteArray.size]) as e1 w6 ⟨rfl,hk,sv6,hW6⟩;have X:Vg B w bw (Ei 400 (Gk y (Ei 400 (Gk x (Ei 400 shown [40])) [44,32])) [41]) (.returned (.tuple #[])) w6:=⟨rfl,m.trans hk,sv6,hW6⟩;go_wp21;go_end0;exact X
theorem Uz(f:Ew.Nf)(e:Ew.Lg):∀x:Val,Ye B x
 |.num n=>zjd f n
 |.Ak c=>zea e c
 |.side c=>by
  intro hv b h d g;obtain rfl:=(hv:_=_);unfold Gk;split
  ·rename_i a;exact Lp b a
  ·rename_i a;exact zag (Yv _) (zb5 _) (Vu _) (Yu _) (Vt _) (.inr ⟨rfl,rfl⟩) b a d
 |.clo .. =>by
  intro hv b h d g;obtain⟨c,j,i,l,k,rfl,_⟩:=hv;unfold Gk;split
  ·rename_i a;exact Lp b a
  ·rename_i a;exact zag (zae _) (zd9 _) (Yx _) (zad _) (zf6 _) (.inl ⟨rfl,rfl⟩) b a d
 |.pair x y=>zga (Uz f e x) (Uz f e y)
theorem zm5(g:Ew.Nf)(f:Ew.Lg){i:List Nat}{v:Value}(hv:Ex w i x v)(h:Tab w)(b:1<w.heap.size):
  Calls prog 51 #[v] w λe w'=>e=.returned (ug (Lx 400 (Gk x [])))/\TK w.heap.size WrS w w':=by
 obtain⟨T,p,rfl⟩:=Ex.iface hv;go_in;go_wp21;go_call Ue w 400 oM as e1 w1 ⟨rfl,hg,hb⟩;have a:=hg;go_wp21;go_call (Uz g f x (B:=w.heap.size) (hv.tkS (TK.Ae 0 WrS a) dZ) hb (h.tk (TK.Ae w.heap.size [] a) b) (znL _) b) as e1 w2 ⟨rfl,hk,sv2,hW2⟩;have c:=(TK.Ae _ _ a).trans hk;go_wp21;go_call zfy hW2 as e1 w3 ⟨rfl,hg⟩;have d:=c.trans (TK.Ae _ _ hg);go_wp21;go_ret;exact⟨rfl,d⟩
end
section
variable{B b fuel steps:Nat}{S:List TypeId}{w w1:World}{t:Tw.T}{kind:Int}{shown:List UInt8}
abbrev zln:List TypeId:=[311,117,329,5]
theorem TK.Cz(h:TK B S w w1)(j:Nat)(v:Value)(d:w.heap.size<=b):TK B S w (w1.setCell (aD b j) v):=by
 have a:∀k,k<w.heap.size->(w1.setCell (aD b j) v).heap[k]?=w1.heap[k]? :=λk e=>aA _ _ _ _ (by simp;omega);exact⟨λ{k} x y=>(a k y).trans (h.low x y),h.os,h.tape,h.output,by simpa using h.size,λ{k c t m} x y=>(a k (zgE.1 x).1).trans (h.cells x y),λ{k o} x y=>(a k (zgE.1 x).1).trans (h.other x y)⟩
theorem Px{x y z:Value}{t:TypeId}(h:w.heap[b]?=some (.cells #[x,y,z] t (0,0)))(p q r:Value):(((w.setCell (aD b 0) p).setCell (aD b 1) q).setCell (aD b 2) r).heap[b]?=some (.cells #[p,q,r] t (0,0)):=by
 have a:(w.setCell (aD b 0) p).heap[b]?=some (.cells #[p,y,z] t (0,0)):=by rw[cD _ _ _ _ _ _ h];rfl
 have c:((w.setCell (aD b 0) p).setCell (aD b 1) q).heap[b]?=some (.cells #[p,q,z] t (0,0)):=by rw[cD _ _ _ _ _ _ a];rfl
 rw[cD _ _ _ _ _ _ c];rfl
theorem TK.drew(h:TK B S w w1):TK B S w w1.drew:=h.trans (TK.Ae _ _ (Ad (Aa _)))
theorem zm6(E:Ew.Nf)(D:Ew.Lg){hi bud:Nat}{tv:Value}(o:Rep w 0 hi t tv)(I:bud<=3000)(G:Tab w)(F:1<w.heap.size)(c:zfc fuel t bud=some (kind,steps,shown)):
    Calls prog 33 #[tv,vI bud] w λe w'=>e=.returned (.agg #[vI kind,vI steps,ug shown])/\TK w.heap.size zln w w':=by
  unfold zfc at c;have⟨A,H,c⟩:=zbE.1 c;obtain⟨L,nt,rfl⟩:=o.iface;have q:w.grownBy (w.alloc (.cells #[vI 0,vI 0,.string ⟨#[]⟩] 39)) none:=zwA _ _ none;have n:w.grownBy ((w.alloc (.cells #[vI 0,vI 0,.string ⟨#[]⟩] 39)).alloc (.cells #[vI bud,vI 0,vI 0] 117)) none:=Aj q _;have y:Dh w.heap.size ((w.alloc (.cells #[vI 0,vI 0,.string ⟨#[]⟩] 39)).alloc (.cells #[vI bud,vI 0,vI 0] 117)) (w.heap.size+1) bud [] ⟨[],0,0⟩:=by
    refine{Fh:=?_,len:=rfl,nodup:=sM,slot:=λm=>by simp at m,steps:=sM,bud:=I,lob:=oM,los:=λm=>by simp at m}
    have:=Ac (w.alloc (.cells #[vI 0,vI 0,.string ⟨#[]⟩] 39)) (.cells #[vI bud,vI 0,vI 0] 117);rw[World.size_alloc]at this;exact this
  have r:zH ((w.alloc (.cells #[vI 0,vI 0,.string ⟨#[]⟩] 39)).alloc (.cells #[vI bud,vI 0,vI 0] 117)) w.heap.size #[vI 0,vI 0,.string ⟨#[]⟩] 39:=
    (Below.heap_alloc _ _ _ sM).trans (Ac w _)
  go_in;go_wp21;go_call zf9 fuel y (o.grown n (znL _) (znL _)) (show Lf _ [] [] (.pointer none)from rfl) H as f w1 ⟨v,sl1,rfl,hv,d,hp,hR⟩;have i:=(TK.Ae _ _ n).trans d;have j:=d.cells r dZ;have⟨M,N,O,U,V,X⟩:=Ag j;have⟨P,Q,R,_,_,_⟩:=Ag hR.Fh;have z1:=i.size;have⟨C,a⟩:=A;cases C with
  |none=>
    simp[Option.some.injEq,Prod.mk.injEq]at c;obtain⟨rfl,rfl,rfl⟩:=c;obtain rfl:v=.nilIface:=hv;go_wp21;go_region;go_wp21;have⟨k,f,l,_,_,_⟩:=Ag (Px j (vI a.fin) (vI a.steps) (.string ⟨#[]⟩));refine bodyPost_ret (v:=.agg #[vI a.fin,vI a.steps,ug []]) (by simp[results,results33,go_sem,k,f,l]) rfl ⟨rfl,?_⟩;exact((((i.sub dZ).Cz 0 _ (znL _)).Cz 1 _ (znL _)).Cz 2 _ (znL _)).drew
  |some x=>
    simp[Option.some.injEq,Prod.mk.injEq]at c;obtain⟨rfl,rfl,rfl⟩:=c;have z:=hv;obtain⟨T,p,rfl⟩:=Ex.iface hv;go_wp21;have h:w1.grownBy w1.drew none:=Ad (Aa _);go_region_held3 (λW=>W.cell? ⟨w.heap.size+1,1,none⟩=some (vI a.steps)) (go_keep)
      ((go_at_call 51;refine(zm5 E D (z.tk (TK.Ae 0 _ h) (List.prefix_refl _)) (G.tk (i.trans (TK.Ae _ _ h)) F) (by have:=h.size;omega)).mono ?_;rintro f J ⟨rfl,d⟩;have s:TK w.heap.size zln w J:=(i.drew.sub dZ).trans ((d.base (by have:=h.size;omega)).sub dZ);have g:=d.cells j dZ;have⟨Y,Z,g2,k0,k1,k2⟩:=Ag g;have⟨_,f,_,_,_,_⟩:=Ag (d.cells hR.Fh dZ);clear d))
    go_wp21;have g:=g;have⟨k,f,l,_,_,_⟩:=Ag (Px g (vI 0) (vI a.steps) (ug (Lx 400 (Gk x []))));refine bodyPost_ret (v:=.agg #[vI 0,vI a.steps,ug (Lx 400 (Gk x []))]) (by simp[results,results33,go_sem,k,f,l]) rfl ⟨rfl,?_⟩;exact(((s.Cz 0 _ (znL _)).Cz 1 _ (znL _)).Cz 2 _ (znL _))
def Lb(n:Int):Nat:=(min (max n 0) 3000).toNat
theorem zsj(m:Ew.Nf)(l:Ew.Lg){bt:Nat}{s:ByteArray}(n:Int)(h:Iu w bt s t)(p:Tab w)(o:1<w.heap.size)(r:zfc fuel t (Lb n)=some (kind,steps,shown)):
  Calls prog 21 #[pT bt,vI n] w λe w'=>e=.returned (.agg #[vI kind,vI steps,ug shown])/\TK w.heap.size zln w w':=by
 have⟨F,L,d,f⟩:=h;have J:bt<w.heap.size:=(zgE.1 d).1;obtain⟨i,y,rfl⟩:=f.iface;have⟨_,z,_,_⟩:=A8 d;have a:w.grownBy (w.alloc (.cells #[vI 0,vI 0,.string ⟨#[]⟩] 39)) none:=zwA _ _ none;have g:zH (w.alloc (.cells #[vI 0,vI 0,.string ⟨#[]⟩] 39)) w.heap.size #[vI 0,vI 0,.string ⟨#[]⟩] 39:=Ac w _;have q:Lb n<=3000:=by unfold Lb;omega
 have E:((Lb n:Nat):Int)=min (max n 0) 3000:=by unfold Lb;omega
 have fin:∀x:Int,x=((Lb n:Nat):Int)->Calls prog 33 #[.iface i (pT y),vI x] (w.alloc (.cells #[vI 0,vI 0,.string ⟨#[]⟩] 39)) λe w'=>e=.returned (.agg #[vI kind,vI steps,ug shown])/\TK w.heap.size zln w w'/\w'.heap[w.heap.size]?=some (.cells #[vI 0,vI 0,.string ⟨#[]⟩] 39 (0,0)):=by
  rintro x rfl;go_call (zm6 m l (f.grown a (znL _) (znL _)) q (p.tk (TK.Ae w.heap.size [] a) o) (by have:=a.size;omega) r) as e w' ⟨rfl,hk⟩;exact⟨rfl,(TK.Ae _ _ a).trans (hk.base a.size),hk.cells g dZ⟩
 go_in;go_wp21
 all_goals
  go_call fin _ oM as c w1 ⟨rfl,hk,hc⟩;have⟨A,C,D,G,H,I⟩:=Ag hc;go_wp21;have⟨j,c,k,_,_,_⟩:=Ag (Px hc (vI kind) (vI steps) (ug shown));refine bodyPost_ret (v:=.agg #[vI kind,vI steps,ug shown]) (by simp[results,results21,go_sem,j,c,k]) rfl ⟨rfl,?_⟩;exact((hk.Cz 0 _ (znL _)).Cz 1 _ (znL _)).Cz 2 _ (znL _)
end
end
abbrev xD:=@List.length_drop
namespace Tw
section
open Go
inductive Lex:Nat->List UInt8->List Tok->Prop
 |nil (off:Nat):Lex off [] []
 |gap {off:Nat} {m:List UInt8} {ts:List Tok} (h:m ≠ []) (hg:0<Mf m) (hr:Lex (off+(Mf m).toNat) (m.drop (Mf m).toNat) ts):Lex off m ts
 |tok {off:Nat} {m:List UInt8} {ts:List Tok} (h:m ≠ []) (hg:¬0<Mf m) (h0:(Au m).2≠0) (hr:Lex (off+(Au m).2.toNat) (m.drop (Au m).2.toNat) ts):Lex off m (⟨(Au m).1,off,off+(Au m).2.toNat⟩::ts)
inductive zkq:Nat->List UInt8->Nat->Prop
 |here {off:Nat} {m:List UInt8} (h:m ≠ []) (hg:¬0<Mf m) (h0:(Au m).2=0):zkq off m off
 |gap {off:Nat} {m:List UInt8} {k:Nat} (h:m ≠ []) (hg:0<Mf m) (hr:zkq (off+(Mf m).toNat) (m.drop (Mf m).toNat) k):zkq off m k
 |tok {off:Nat} {m:List UInt8} {k:Nat} (h:m ≠ []) (hg:¬0<Mf m) (h0:(Au m).2≠0) (hr:zkq (off+(Au m).2.toNat) (m.drop (Au m).2.toNat) k):zkq off m k
theorem zb7(l:zU):∀(fuel k:Nat) (a:List Tok),k<=l.length->l.length<fuel+k ->
  (∃body,Ct l fuel k a=.ok (a++body++[⟨0,l.length,l.length⟩])/\Lex k (l.drop k) body)\/(∃e,Ct l fuel k a=.error e/\zkq k (l.drop k) e):=by
 intro fuel
 induction fuel with
 |zero=>intro k a o p;omega
 |succ n ih=>
  intro k a o p;rw[Ct];by_cases i:k<l.length
  ·have g:0<(l.drop k).length:=(by simp;omega);have f:l.drop k ≠ []:=(by intro e;rw[e]at g;simp at g);have m:=Vj (l.drop k) g;have j:=Tf (l.drop k) g;simp only[xD]at m j;rw[mA i];by_cases c:0<Mf (l.drop k)
   ·rw[mA c]
    have:=ih (k+(Mf (l.drop k)).toNat) a oM oM;rw[<-List.drop_drop]at this;rcases this with⟨body,h,b⟩|⟨e,h,b⟩
    ·exact .inl ⟨body,h,.gap f c b⟩
    ·exact .inr ⟨e,h,.gap f c b⟩
   ·rw[jA c];by_cases d:(Au (l.drop k)).2=0
    ·rw[mA d];exact .inr ⟨k,rfl,.here f c d⟩
    ·rw[jA d]
     have:=ih (k+(Au (l.drop k)).2.toNat) (a++[⟨(Au (l.drop k)).1,k,k+(Au (l.drop k)).2.toNat⟩]) oM oM;rw[<-List.drop_drop]at this;rcases this with⟨body,h,b⟩|⟨e,h,b⟩
     ·exact .inl ⟨_::body,by rw[h];simp,.tok f c d b⟩
     ·exact .inr ⟨e,h,.tok f c d b⟩
  ·have q:k=l.length:=oM;subst q;rw[jA i];refine .inl ⟨[],sM,?_⟩;rw[List.drop_length];exact .nil _
theorem Lex.unique:∀ {off:Nat} {m:zU} {b a:List Tok},Lex off m b->Lex off m a->b=a:=by
 intro off m b a h
 induction h generalizing a with
 |nil off=>intro k;cases k with
  |nil=>rfl
  |gap h=>exact absurd rfl h
  |tok h=>exact absurd rfl h
 |gap h hg hr ih=>intro k;cases k with
  |nil=>exact absurd rfl h
  |gap _ _ hr'=>exact ih hr'
  |tok _ hg'=>exact absurd hg hg'
 |tok h hg h0 hr ih=>intro k;cases k with
  |nil=>exact absurd rfl h
  |gap _ hg'=>exact absurd hg' hg
  |tok _ _ _ hr'=>rw[ih hr']
theorem Lex.zsk:∀ {off:Nat} {m:zU} {a:List Tok} {e:Nat},Lex off m a->zkq off m e->False:=by
 intro off m a e h
 induction h with
 |nil=>intro k;cases k with
  |here h=>exact absurd rfl h
  |gap h=>exact absurd rfl h
  |tok h=>exact absurd rfl h
 |gap h hg hr ih=>intro k;cases k with
  |here _ hg'=>exact absurd hg hg'
  |gap _ _ hr'=>exact ih hr'
  |tok _ hg'=>exact absurd hg hg'
 |tok h hg h0 hr ih=>intro k;cases k with
  |here _ _ h0'=>exact absurd h0' h0
  |gap _ hg'=>exact absurd hg' hg
  |tok _ _ _ hr'=>exact ih hr'
theorem J0{l:zU}{c:List Tok}:split l=.ok c↔∃body,Lex 0 l body/\c=body++[⟨0,l.length,l.length⟩]:=by
 have:=zb7 l (l.length+1) 0 [] oM oM;simp only[List.drop_zero,rD]at this;constructor
 ·intro h;rcases this with⟨body,a,b⟩|⟨e,a,_⟩
  ·rw[split,a]at h;cases h;exact⟨body,b,rfl⟩
  ·rw[split,a]at h;cases h
 ·rintro⟨body,b,rfl⟩;rcases this with⟨g,a,f⟩|⟨e,a,d⟩
  ·rw[split,a,b.unique f]
  ·exact(b.zsk d).elim
end
end Tw
abbrev uB:=@Prod.exists
namespace Tw
section
open Go
section
variable{ts:List Tok}{st st' a b c:PS}{s:Int}
theorem Dz(h:Hj ts st=some st'):st'.stuck=true/\st'.depth=st.depth:=by
 unfold Hj at h;split at h
 ·rename_i d;cases h;exact⟨d,rfl⟩
 ·obtain⟨t,_,h⟩:=zbE.1 h;cases h;exact⟨rfl,rfl⟩
def Hz(st st':PS):Prop:=(st'.stuck=false->st.stuck=false)/\st'.depth=st.depth
theorem Hz.refl(st:PS):Hz st st:=⟨id,rfl⟩
theorem Hz.trans(h:Hz a b)(k:Hz b c):Hz a c:=⟨λx=>h.1 (k.1 x),k.2.trans h.2⟩
theorem U0(h:Hj ts st=some st'):Hz st st':=⟨λx=>(by rw[(Dz h).1]at x;cases x),(Dz h).2⟩
theorem An{t:Tok}(h:Bg ts s st=some (t,st')):Hz st st':=by
 unfold Bg at h;obtain⟨f,_,h⟩:=zbE.1 h;split at h
 ·split at h
  ·cases h;exact .refl _
  ·split at h
   ·cases h;exact⟨λx=>x,rfl⟩
   ·cases h
 ·obtain⟨e,d,h⟩:=zbE.1 h;cases h;exact U0 d
theorem Bi{ts:List Tok}:∀ {l:List Int} {st st':PS} {k:Int},Bn ts l st=some (k,st')->Hz st st'
 |[],st,st',k,h=>by cases h;exact .refl _
 |s::l,st,st',k,h=>by
  rw[Bn]at h;obtain⟨t0,_,h⟩:=zbE.1 h;split at h
  ·obtain⟨⟨f,e⟩,d,h⟩:=zbE.1 h;cases h;exact An d
  ·exact Bi h
theorem Jm{k:Nat}(h:Fg ts s st=some (k,st')):(st'.stuck=false->st.stuck=false)/\st'.depth=st.depth+1:=by
 unfold Fg at h;obtain⟨i,d,h⟩:=zbE.1 h;have e:Hz st i:=by
  split at d
  ·exact U0 d
  ·cases d;exact .refl _
 split at h
 ·obtain⟨⟨m,j⟩,g,h⟩:=zbE.1 h;cases h;have f:=An g;exact⟨λx=>e.1 (f.1 x),by rw[f.2];simp[e.2]⟩
 ·cases h
theorem Bp(h:endS st=some st'):st'.stuck=st.stuck/\st.depth=st'.depth+1:=by
 unfold endS at h;split at h
 ·cases h
 ·cases h;exact⟨rfl,by simp;omega⟩
theorem Ii{l:zU}{b:zU×Nat}(h:Dv l ts st=some (b,st')):Hz st st':=by
 unfold Dv at h;obtain⟨⟨f,e⟩,d,h⟩:=zbE.1 h;split at h
 ·cases h;exact An d
 ·cases h
theorem Hz.block{d:PS}(e:(b.stuck=false->a.stuck=false)/\b.depth=a.depth+1)(f:Hz b c)(g:d.stuck=c.stuck/\c.depth=d.depth+1):Hz a d:=by
 refine⟨λx=>e.1 (f.1 (by rw[<-g.1];exact x)),?_⟩
 have:=e.2
 have:=f.2
 have:=g.2;omega
section
variable (l:List UInt8)(ts:List Tok)
structure zwo(n:Nat):Prop where
 expr:∀ {st st' t},Cg l ts n st=some (t,st')->Hz st st'
 Am:∀ {st st' t},Oh l ts n st=some (t,st')->Hz st st'
 fn:∀ {st st' t},Oj l ts n st=some (t,st')->Hz st st'
 cond:∀ {st st' t},Ie l ts n st=some (t,st')->Hz st st'
 cmp:∀ {st st' t},Kk l ts n st=some (t,st')->Hz st st'
 sum:∀ {st st' t},Kj l ts n st=some (t,st')->Hz st st'
 term:∀ {st st' t},Ha l ts n st=some (t,st')->Hz st st'
 part:∀ {p st st' t},Dw l ts n p st=some (t,st')->Hz st st'
 chain:∀ {p g st st' t},Ed l ts n p g st=some (t,st')->Hz st st'
 Ch:∀ {p g a st st' t},Bd l ts n p g a st=some (t,st')->Hz st st'
 call:∀ {st st' t},Gv l ts n st=some (t,st')->Hz st st'
 Dx:∀ {a st st' t},Bh l ts n a st=some (t,st')->Hz st st'
 atom:∀ {st st' t},Ev l ts n st=some (t,st')->Hz st st'
 bracket:∀ {st st' t},Cd l ts n st=some (t,st')->Hz st st'
theorem Ck:∀n,zwo l ts n
 |0=>by constructor<;>(intros;rename_i h;simp[Cg,Oh,Oj,Ie,Kk,Kj,Ha,Dw,Ed,Bd,Gv,Bh,Ev,Cd]at h)
 |n+1=>by
  have d:=Ck n;constructor
  ·intro st st' t h;rw[Cg]at h;obtain⟨k,_,h⟩:=zbE.1 h;split at h
   ·exact d.Am h
   ·split at h
    ·exact d.fn h
    ·split at h
     ·exact d.cond h
     ·exact d.cmp h
  ·intro st st' t h;simp only[Oh,zbE,zsI,zpI,uB]at h;obtain⟨_,_,f,_,_,e,_,_,_,g,_,_,j,_,_,i,_,_,m,_,_,o,_,r,_,rfl⟩:=h;exact Hz.block (Jm f) (((((Bi e).trans (Ii g)).trans (An j)).trans (d.expr i)).trans ((An m).trans (d.expr o))) (Bp r)
  ·intro st st' t h;simp only[Oj,zbE,zsI,zpI,uB]at h;obtain⟨_,_,f,_,_,_,e,_,_,g,_,_,j,_,i,_,rfl⟩:=h;exact Hz.block (Jm f) (((Ii e).trans (An g)).trans (d.expr j)) (Bp i)
  ·intro st st' t h;simp only[Ie,zbE,zsI,zpI,uB]at h;obtain⟨_,_,f,_,_,e,_,_,g,_,_,j,_,_,i,_,_,m,_,o,_,rfl⟩:=h;exact Hz.block (Jm f) ((((d.expr e).trans (An g)).trans (d.expr j)).trans ((An i).trans (d.expr m))) (Bp o)
  ·intro st st' t h;simp only[Kk,zbE,uB]at h;obtain⟨_,_,f,_,_,e,h⟩:=h;split at h
   ·cases h;exact(d.sum f).trans (Bi e)
   ·simp only[zbE,zsI,zpI,uB]at h;obtain⟨_,_,g,_,rfl⟩:=h;exact((d.sum f).trans (Bi e)).trans (d.sum g)
  ·intro st st' t h;rw[Kj]at h;exact d.chain h
  ·intro st st' t h;rw[Ha]at h;exact d.chain h
  ·intro p st st' t h;cases p with
   |term=>rw[Dw]at h;exact d.term h
   |call=>rw[Dw]at h;exact d.call h
  ·intro p q st st' t h;simp only[Ed,zbE,uB]at h;obtain⟨_,_,f,e⟩:=h;exact(d.part f).trans (d.Ch e)
  ·intro p q a st st' t h;simp only[Bd,zbE,uB]at h;obtain⟨_,_,f,h⟩:=h;split at h
   ·cases h;exact Bi f
   ·simp only[zbE,uB]at h;obtain⟨_,_,e,g⟩:=h;exact((Bi f).trans (d.part e)).trans (d.Ch g)
  ·intro st st' t h;simp only[Gv,zbE,uB]at h;obtain⟨_,_,f,e⟩:=h;exact(d.atom f).trans (d.Dx e)
  ·intro a st st' t h;simp only[Bh,zbE]at h;obtain⟨_,f,h⟩:=h;split at h
   ·simp only[zbE,uB]at h;obtain⟨_,_,e,g⟩:=h;exact(d.atom e).trans (d.Dx g)
   ·cases h;exact .refl _
  ·intro st st' t h;simp only[Ev,zbE]at h;obtain⟨k,f,h⟩:=h;split at h
   ·exact d.bracket h
   ·split at h
    ·simp only[zbE,zsI,zpI,uB]at h;obtain⟨_,_,e,_,_,_,rfl⟩:=h;exact An e
    ·simp only[zbE,zsI,zpI]at h;obtain⟨_,e,_,rfl⟩:=h;exact U0 e
  ·intro st st' t h;simp only[Cd,zbE,uB]at h;obtain⟨_,_,f,_,_,e,_,_,g,h⟩:=h;split at h
   ·simp only[zbE,zsI,zpI,uB]at h;obtain⟨_,_,j,_,_,i,_,m,_,rfl⟩:=h;exact Hz.block (Jm f) ((((d.expr e).trans (Bi g)).trans (d.expr j)).trans (An i)) (Bp m)
   ·simp only[zbE,zsI,zpI,uB]at h;obtain⟨_,_,i,_,m,_,rfl⟩:=h;exact Hz.block (Jm f) (((d.expr e).trans (Bi g)).trans (An i)) (Bp m)
end
end
section
structure zhq(l:List UInt8)(ts:List Tok):Prop where
 few:ts.length<=301
 pos:0<ts.length
 last:∃e,ts[ts.length-1]?=some e/\e.sort=0
 ahead:∀(i:Nat) (t:Tok),i+1<ts.length->ts[i]?=some t->t.sort≠0
 place:∀(i:Nat) (t:Tok),ts[i]?=some t->t.fr<=t.to/\t.to<=l.length
 value:∀(i:Nat) (t:Tok),ts[i]?=some t->t.sort=2->∃v,Me (Bv l t.fr t.to)=some v
def PS.rem(ts:List Tok)(st:PS):Nat:=if st.stuck then 0 else ts.length-st.next
structure PS.ok(ts:List Tok)(st:PS):Prop where
 deep:st.depth<=41
 live:st.stuck=false->st.depth<=40/\st.next<ts.length
variable {l:List UInt8}{ts:List Tok} (G:zhq l ts)
include G
set_option linter.unusedSectionVars false
theorem U6{st:PS}(h:st.ok ts):∃t,Ej ts st=some t/\(st.stuck=true->t.sort=0)/\(st.stuck=false->ts[st.next]?=some t)/\(t.sort≠0->st.stuck=false/\st.next+1<ts.length)/\t.fr<=t.to/\t.to<=l.length/\(t.sort=2->∃v,Me (Bv l t.fr t.to)=some v):=by
 obtain⟨e,b,c⟩:=G.last;unfold Ej;cases j:st.stuck with
 |true=>
  refine⟨e,by simpa using b,λ_=>c,λh=>by simp at h,λh=>absurd c h,(G.place _ _ b).1,(G.place _ _ b).2,λh=>oM⟩
 |false=>
  have i:=(h.live j).2;have a:ts[st.next]?=some ts[st.next]:=fA i;refine⟨ts[st.next],sM,λh=>by simp at h,λ_=>a,λd=>⟨rfl,?_⟩,(G.place _ _ a).1,(G.place _ _ a).2,λd=>G.value _ _ a d⟩;rcases yB (st.next+1) ts.length with g|g
  ·exact g
  ·have:st.next=ts.length-1:=oM;have f:ts[st.next]?=some e:=(by rw[this];exact b);rw[a]at f;exact absurd (by rw[Option.some.inj f];exact c) d
theorem Tl{st:PS}(h:st.stuck=true):st.rem ts=0:=by simp[PS.rem,h]
theorem zah{st:PS}(h:st.ok ts)(a:st.stuck=false):0<st.rem ts:=by
 have:=(h.live a).2;simp[PS.rem,a];omega
theorem Vw{st:PS}(h:st.ok ts):∃st',Hj ts st=some st'/\st'.ok ts/\st'.stuck=true/\st'.depth=st.depth:=by
 obtain⟨t,c,_⟩:=U6 G h;unfold Hj;cases b:st.stuck with
 |true=>exact⟨st,sM,h,b,rfl⟩
 |false=>
  rw[c];exact⟨{st with stuck:=true,fault:=t.fr},sM,⟨h.deep,λa=>by simp at a⟩,rfl,rfl⟩
theorem Hh{st:PS}(h:st.ok ts)(s:Int)(c:s≠0):∃t st',Bg ts s st=some (t,st')/\st'.ok ts/\st'.rem ts<=st.rem ts/\(st.stuck=false->st'.rem ts<st.rem ts)/\st'.depth=st.depth/\t.fr<=t.to/\t.to<=l.length:=by
 obtain⟨t,o,p,q,g,d,e,_⟩:=U6 G h;obtain⟨sf,i,j,f,k⟩:=Vw G h;unfold Bg;rw[o];simp only[zbS];by_cases b:t.sort=s
 ·rw[mA b,jA c];obtain⟨a,n⟩:=g (by rw[b];exact c);have m:=h.live a;rw[mA (by have:=G.few;omega)];refine⟨t,_,rfl,⟨h.deep,λ_=>⟨m.1,n⟩⟩,?_,λ_=>?_,rfl,d,e⟩
  ·simp[PS.rem,a];omega
  ·simp[PS.rem,a];omega
 ·rw[jA b,i];refine⟨t,sf,rfl,j,by rw[Tl G f];omega,λa=>?_,k,d,e⟩;rw[Tl G f];exact zah G h a
theorem Vx{st:PS}(h:st.ok ts):∀(g:List Int),(∀x∈g,x≠0)->∃k st',Bn ts g st=some (k,st')/\st'.ok ts/\st'.rem ts<=st.rem ts/\(k≠0->st'.rem ts<st.rem ts)/\st'.depth=st.depth
 |[],_=>⟨0,st,rfl,h,znL _,λh=>absurd rfl h,rfl⟩
 |s::g,hg=>by
  obtain⟨t,n,p,q,d,r,v,_⟩:=U6 G h;rw[Bn,n];simp only[zbS];by_cases a:t.sort=s
  ·rw[mA a];have b:=hg s sM;obtain⟨m,w⟩:=d (by rw[a];exact b);obtain⟨y,st',e,f,i,j,c,_⟩:=Hh G h s b;rw[e];exact⟨_,st',rfl,f,i,λ_=>j m,c⟩
  ·rw[jA a];exact Vx h g (λx o=>hg x (by simp[o]))
theorem Tm{st:PS}(h:st.ok ts)(d:st.stuck=false)(s:Int)(f:s≠0):∃k st',Fg ts s st=some (k,st')/\st'.ok ts/\st'.rem ts<st.rem ts/\st'.depth=st.depth+1:=by
 obtain⟨sf,o,r,j,t⟩:=Vw G h;have p:=h.live d;have v:=zah G h d;unfold Fg;by_cases i:st.depth=40
 ·rw[mA i,o];simp only[zbS];rw[mA oM];have e:PS.ok ts {sf with depth:=sf.depth+1}:=⟨by simp;omega,λm=>by simp[j]at m⟩;obtain⟨q,st',b,c,n,g,a,_⟩:=Hh G e s f;rw[b];refine⟨_,st',rfl,c,?_,by rw[a];simp;omega⟩;have:PS.rem ts {sf with depth:=sf.depth+1}=0:=by simp[PS.rem,j]
  omega
 ·rw[jA i];simp only[zbS];rw[mA oM];have e:PS.ok ts {st with depth:=st.depth+1}:=⟨by simp;omega,λ_=>⟨by simp;omega,p.2⟩⟩;obtain⟨q,st',b,c,n,g,a,_⟩:=Hh G e s f;rw[b];have:PS.rem ts {st with depth:=st.depth+1}=st.rem ts:=by simp[PS.rem]
  have:=g d;exact⟨_,st',rfl,c,oM,by rw[a]⟩
theorem Vy{st:PS}(h:st.ok ts)(b:0<st.depth):∃st',endS st=some st'/\st'.ok ts/\st'.rem ts=st.rem ts:=by
 unfold endS;rw[jA oM];exact⟨_,rfl,⟨by have:=h.deep;simp;omega,λa=>by have:=h.live a;simp;omega⟩,rfl⟩
theorem zai{st:PS}(h:st.ok ts):∃b st',Dv l ts st=some (b,st')/\st'.ok ts/\st'.rem ts<=st.rem ts/\st'.depth=st.depth:=by
 obtain⟨t,st',a,c,d,_,e,f,g⟩:=Hh G h 1 oM;unfold Dv;rw[a];simp only[zbS];rw[mA ⟨f,g⟩];exact⟨_,st',rfl,c,d,e⟩
theorem zpv{t:Tok}(a:t.fr<=t.to)(b:t.to<=l.length)(d:t.sort=2->∃v,Me (Bv l t.fr t.to)=some v):∃x,Lv l t=some x:=by
 unfold Lv;split
 ·rename_i c;obtain⟨v,e⟩:=d c;rw[mA ⟨a,b⟩,e];exact⟨_,rfl⟩
 ·split
  ·exact⟨_,rfl⟩
  ·split
   ·exact⟨_,rfl⟩
   ·rw[mA ⟨a,b⟩];exact⟨_,rfl⟩
omit G in
def Part.c:Part->Nat
 |.term=>8
 |.call=>5
omit G in
theorem Part.zpw(p:Part):5<=p.c/\p.c<=8:=by cases p<;>simp[Part.c]
omit G in
structure zwx(l:List UInt8)(ts:List Tok)(n:Nat):Prop where
 expr:∀ {st},st.ok ts->20*st.rem ts+12<=n->∃x st',Cg l ts n st=some (x,st')/\st'.ok ts/\st'.rem ts<=st.rem ts
 Am:∀ {st},st.ok ts->st.stuck=false->20*st.rem ts+1<=n->∃x st',Oh l ts n st=some (x,st')/\st'.ok ts/\st'.rem ts<=st.rem ts
 fn:∀ {st},st.ok ts->st.stuck=false->20*st.rem ts+1<=n->∃x st',Oj l ts n st=some (x,st')/\st'.ok ts/\st'.rem ts<=st.rem ts
 cond:∀ {st},st.ok ts->st.stuck=false->20*st.rem ts+1<=n->∃x st',Ie l ts n st=some (x,st')/\st'.ok ts/\st'.rem ts<=st.rem ts
 cmp:∀ {st},st.ok ts->20*st.rem ts+11<=n->∃x st',Kk l ts n st=some (x,st')/\st'.ok ts/\st'.rem ts<=st.rem ts
 sum:∀ {st},st.ok ts->20*st.rem ts+10<=n->∃x st',Kj l ts n st=some (x,st')/\st'.ok ts/\st'.rem ts<=st.rem ts
 term:∀ {st},st.ok ts->20*st.rem ts+7<=n->∃x st',Ha l ts n st=some (x,st')/\st'.ok ts/\st'.rem ts<=st.rem ts
 part:∀ {p st},st.ok ts->20*st.rem ts+p.c<=n->∃x st',Dw l ts n p st=some (x,st')/\st'.ok ts/\st'.rem ts<=st.rem ts
 chain:∀ {p g st},(∀x∈g,x≠0)->st.ok ts->20*st.rem ts+(p.c+1)<=n->∃x st',Ed l ts n p g st=some (x,st')/\st'.ok ts/\st'.rem ts<=st.rem ts
 Ch:∀ {p g a st},(∀x∈g,x≠0)->st.ok ts->20*st.rem ts+1<=n->∃x st',Bd l ts n p g a st=some (x,st')/\st'.ok ts/\st'.rem ts<=st.rem ts
 call:∀ {st},st.ok ts->20*st.rem ts+4<=n->∃x st',Gv l ts n st=some (x,st')/\st'.ok ts/\st'.rem ts<=st.rem ts
 Dx:∀ {a st},st.ok ts->20*st.rem ts+3<=n->∃x st',Bh l ts n a st=some (x,st')/\st'.ok ts/\st'.rem ts<=st.rem ts
 atom:∀ {st},st.ok ts->20*st.rem ts+2<=n->∃x st',Ev l ts n st=some (x,st')/\st'.ok ts/\st'.rem ts<=st.rem ts/\(st.stuck=false->st'.rem ts<st.rem ts)
 bracket:∀ {st},st.ok ts->st.stuck=false->20*st.rem ts+1<=n->∃x st',Cd l ts n st=some (x,st')/\st'.ok ts/\st'.rem ts<st.rem ts
theorem zkz:∀n,zwx l ts n
 |0=>by constructor<;>intros<;>first|omega|(rename_i p _ _ hn;have:=p.zpw;omega)
 |n+1=>by
  have ih:=zkz n;have hM:=Ck l ts n;constructor
  ·intro st h hn;obtain⟨t,ht,h1,h2,h3,_⟩:=U6 G h;rw[Cg,ht];simp only[zbS];split
   ·rename_i hs;exact ih.Am h (h3 oM).1 oM
   ·split
    ·rename_i hs;exact ih.fn h (h3 oM).1 oM
    ·split
     ·rename_i hs;exact ih.cond h (h3 oM).1 oM
     ·exact ih.cmp h oM
  ·intro st h hs hn;obtain⟨k,s1,e1,o1,r1,d1⟩:=Tm G h hs 3 oM;obtain⟨rc,s2,e2,o2,r2,_,d2⟩:=Vx G o1 [4] sM;obtain⟨bd,s3,e3,o3,r3,d3⟩:=zai G o2;obtain⟨t4,s4,e4,o4,r4,_,d4,_⟩:=Hh G o3 15 oM;obtain⟨x5,s5,e5,o5,r5⟩:=ih.expr o4 oM;have d5:=(hM.expr e5).2;obtain⟨t6,s6,e6,o6,r6,_,d6,_⟩:=Hh G o5 5 oM;obtain⟨x7,s7,e7,o7,r7⟩:=ih.expr o6 oM;have d7:=(hM.expr e7).2;obtain⟨s8,e8,o8,r8⟩:=Vy G o7 oM;rw[Oh,e1];simp only[zbS];rw[e2];simp only[zbS];rw[e3];simp only[zbS];rw[e4];simp only[zbS];rw[e5];simp only[zbS];rw[e6];simp only[zbS];rw[e7];simp only[zbS];rw[e8];exact⟨_,s8,rfl,o8,oM⟩
  ·intro st h hs hn;obtain⟨k,s1,e1,o1,r1,d1⟩:=Tm G h hs 6 oM;obtain⟨bd,s3,e3,o3,r3,d3⟩:=zai G o1;obtain⟨t4,s4,e4,o4,r4,_,d4,_⟩:=Hh G o3 14 oM;obtain⟨x5,s5,e5,o5,r5⟩:=ih.expr o4 oM;have d5:=(hM.expr e5).2;obtain⟨s8,e8,o8,r8⟩:=Vy G o5 oM;rw[Oj,e1];simp only[zbS];rw[e3];simp only[zbS];rw[e4];simp only[zbS];rw[e5];simp only[zbS];rw[e8];exact⟨_,s8,rfl,o8,oM⟩
  ·intro st h hs hn;obtain⟨k,s1,e1,o1,r1,d1⟩:=Tm G h hs 7 oM;obtain⟨x2,s2,e2,o2,r2⟩:=ih.expr o1 oM;have d2:=(hM.expr e2).2;obtain⟨t3,s3,e3,o3,r3,_,d3,_⟩:=Hh G o2 8 oM;obtain⟨x4,s4,e4,o4,r4⟩:=ih.expr o3 oM;have d4:=(hM.expr e4).2;obtain⟨t5,s5,e5,o5,r5,_,d5,_⟩:=Hh G o4 9 oM;obtain⟨x6,s6,e6,o6,r6⟩:=ih.expr o5 oM;have d6:=(hM.expr e6).2;obtain⟨s8,e8,o8,r8⟩:=Vy G o6 oM;rw[Ie,e1];simp only[zbS];rw[e2];simp only[zbS];rw[e3];simp only[zbS];rw[e4];simp only[zbS];rw[e5];simp only[zbS];rw[e6];simp only[zbS];rw[e8];exact⟨_,s8,rfl,o8,oM⟩
  ·intro st h hn;obtain⟨x1,s1,e1,o1,r1⟩:=ih.sum h oM;obtain⟨k,s2,e2,o2,r2,r2',_⟩:=Vx G o1 [23,15] sM;rw[Kk,e1];simp only[zbS];rw[e2];simp only[zbS];split
   ·exact⟨_,s2,rfl,o2,oM⟩
   ·rename_i hk
    have:=r2' hk;obtain⟨x3,s3,e3,o3,r3⟩:=ih.sum o2 oM;rw[e3];exact⟨_,s3,rfl,o3,oM⟩
  ·intro st h hn;rw[Kj];exact ih.chain (p:=.term) sM h (by simp[Part.c];omega)
  ·intro st h hn;rw[Ha];exact ih.chain (p:=.call) sM h (by simp[Part.c];omega)
  ·intro p st h hn;cases p with
   |term=>rw[Dw];exact ih.term h (by simp[Part.c]at hn;omega)
   |call=>rw[Dw];exact ih.call h (by simp[Part.c]at hn;omega)
  ·intro p g st hg h hn;obtain⟨x1,s1,e1,o1,r1⟩:=ih.part (p:=p) h oM;obtain⟨x2,s2,e2,o2,r2⟩:=ih.Ch (p:=p) (a:=x1) hg o1 (by have:=p.zpw;omega);rw[Ed,e1];simp only[zbS];rw[e2];exact⟨_,s2,rfl,o2,oM⟩
  ·intro p g a st hg h hn;obtain⟨k,s1,e1,o1,r1,r1',_⟩:=Vx G h g hg;rw[Bd,e1];simp only[zbS];split
   ·exact⟨_,s1,rfl,o1,r1⟩
   ·rename_i hk
    have:=r1' hk;obtain⟨x2,s2,e2,o2,r2⟩:=ih.part (p:=p) o1 (by have:=p.zpw;omega);rw[e2];simp only[zbS];obtain⟨x3,s3,e3,o3,r3⟩:=ih.Ch (p:=p) (a:=.binary a.fr x2.to k a x2) hg o2 oM;rw[e3];exact⟨_,s3,rfl,o3,oM⟩
  ·intro st h hn;obtain⟨x1,s1,e1,o1,r1,_⟩:=ih.atom h oM;obtain⟨x2,s2,e2,o2,r2⟩:=ih.Dx (a:=x1) o1 oM;rw[Gv,e1];simp only[zbS];rw[e2];exact⟨_,s2,rfl,o2,oM⟩
  ·intro a st h hn;obtain⟨t,ht,h1,h2,h3,_⟩:=U6 G h;rw[Bh,ht];simp only[zbS];split
   ·rename_i hb;have h0:t.sort≠0:=(by intro e;rw[e]at hb;simp[Ap]at hb);obtain⟨x1,s1,e1,o1,r1,r1'⟩:=ih.atom h oM
    have:=r1' (h3 h0).1;rw[e1];simp only[zbS];obtain⟨x2,s2,e2,o2,r2⟩:=ih.Dx (a:=.call a.fr x1.to a x1) o1 oM;rw[e2];exact⟨_,s2,rfl,o2,oM⟩
   ·exact⟨_,st,rfl,h,znL _⟩
  ·intro st h hn;obtain⟨t,ht,h1,h2,h3,h4,h5,h6⟩:=U6 G h;rw[Ev,ht];simp only[zbS];split
   ·rename_i hs;obtain⟨x1,s1,e1,o1,r1⟩:=ih.bracket h (h3 oM).1 oM;exact⟨x1,s1,e1,o1,oM,λ_=>r1⟩
   ·split
    ·rename_i hb;have h0:t.sort≠0:=(by intro e;rw[e]at hb;simp[Ap]at hb);obtain⟨t',s1,e1,o1,r1,r1',_⟩:=Hh G h t.sort h0;obtain⟨x,hx⟩:=zpv G h4 h5 h6;rw[e1];simp only[zbS];rw[hx];exact⟨_,s1,rfl,o1,r1,r1'⟩
    ·obtain⟨sf,hf,hf1,hf2,hf3⟩:=Vw G h;rw[hf];exact⟨_,sf,rfl,hf1,by rw[Tl G hf2];omega,λhs=>by rw[Tl G hf2];exact zah G h hs⟩
  ·intro st h hs hn;obtain⟨k,s1,e1,o1,r1,d1⟩:=Tm G h hs 16 oM;obtain⟨x2,s2,e2,o2,r2⟩:=ih.expr o1 oM;have d2:=(hM.expr e2).2;obtain⟨c,s3,e3,o3,r3,r3',d3⟩:=Vx G o2 [18] sM;rw[Cd,e1];simp only[zbS];rw[e2];simp only[zbS];rw[e3];simp only[zbS];split
   ·obtain⟨x4,s4,e4,o4,r4⟩:=ih.expr o3 oM;have d4:=(hM.expr e4).2;obtain⟨t5,s5,e5,o5,r5,_,d5,_⟩:=Hh G o4 17 oM;obtain⟨s8,e8,o8,r8⟩:=Vy G o5 oM;rw[e4];simp only[zbS];rw[e5];simp only[zbS];rw[e8];exact⟨_,s8,rfl,o8,oM⟩
   ·obtain⟨t5,s5,e5,o5,r5,_,d5,_⟩:=Hh G o3 17 oM;obtain⟨s8,e8,o8,r8⟩:=Vy G o5 oM;rw[e5];simp only[zbS];rw[e8];exact⟨_,s8,rfl,o8,oM⟩
theorem zm7(n:Nat)(e:6100<=n):∃r,Gj l ts n=some r:=by
 have o:PS.ok ts ⟨0,0,false,0⟩:=⟨sM,λ_=>⟨sM,G.pos⟩⟩;have f:PS.rem ts ⟨0,0,false,0⟩<=301:=by have:=G.few;simp[PS.rem];omega
 obtain⟨x,g,b,a,_⟩:=(zkz G n).expr o oM;obtain⟨t,d,_⟩:=U6 G a;obtain⟨sf,c,_⟩:=Vw G a;unfold Gj;rw[b];simp only[zbS];unfold Bg;rw[d];simp only[zbS,if_true];split
 ·exact⟨_,rfl⟩
 ·rw[c];exact⟨_,rfl⟩
end
end
end Tw
abbrev dD:=@List.mem_of_getElem?
abbrev fE:=@decide_eq_true_eq
namespace Tw
section
open Go
section
variable{m:List UInt8}
theorem Uf:∀(d:zU) (a k:Nat),(∀c∈d,B6 c.toNat=true)->a<10 ^ k->d.length+k<=18->∃u,Lib.parseUintM (2 ^ 64-1) a d=.ok u/\u<10 ^ (d.length+k)
 |[],a,k,_,ha,_=>⟨a,rfl,by simpa using ha⟩
 |c::r,a,k,hd,ha,hl=>by
  have f:=hd c sM;simp only[B6,fE]at f;have h:a<10 ^ 17:=aB ha (Nat.pow_le_pow_right oM (by simp at hl;omega));rw[Lib.parseUintM,mA oM,jA oM,jA oM];obtain⟨u,b,e⟩:=Uf r (a*10+(c.toNat-48)) (k+1) (λx g=>hd x (by simp[g])) (by rw[Nat.pow_succ];omega) (by simp at hl;omega);exact⟨u,b,by rw[zB,show r.length+1+k=r.length+(k+1) by omega];exact e⟩
theorem zeb{d:zU}(b:d ≠ [])(a:∀c∈d,B6 c.toNat=true)(h:d.length<=9):∃v,Me d=some v:=by
 cases d with
 |nil=>exact absurd rfl b
 |cons c r=>
  have g:=a c sM;simp only[B6,fE]at g;obtain⟨i,e,f⟩:=Uf (c::r) 0 0 a sM oM;have j:i<10 ^ 9:=aB f (Nat.pow_le_pow_right oM (by simpa using h));unfold Me Lib.parseIntB;simp only;rw[jA (show¬(c.toNat=43\/c.toNat=45) by omega),Lib.parseUintB,jA sM,e];simp only;rw[jA oM,jA oM];exact⟨_,rfl⟩
theorem Rq(p:Int->Bool)(m:zU):∀c∈Gy p m,p c.toNat=true:=by
 intro c a
 have:=List.all_takeWhile (p:=λc:UInt8=>p c.toNat) (l:=m);exact List.all_eq_true.1 this c a
theorem zcz(p:Int->Bool):∀m:zU,m.take (Gy p m).length=Gy p m
 |[]=>rfl
 |c::m=>by
  unfold Gy;rw[List.takeWhile_cons];split
  ·simp only[zB,List.take_succ_cons]
   have:=zcz p m;unfold Gy at this;rw[this]
  ·rfl
theorem Vz(l:zU):Cw l≠0/\Cw l≠2:=by
 unfold Cw
 repeat' split
 all_goals simp
theorem zje(c:Int):(Id c).2≠0->(Id c).1≠0/\(Id c).1≠2:=by
 unfold Id
 repeat' split
 all_goals simp
theorem zjf(a:(Au m).2≠0):(Au m).1≠0/\((Au m).1=2->m.take (Au m).2.toNat ≠ []/\(∀c∈m.take (Au m).2.toNat,B6 c.toNat=true)/\(m.take (Au m).2.toNat).length<=9):=by
 unfold Au at a ⊢;split at a
 ·rename_i f;simp only[f,if_true];unfold Jq at a ⊢;split at a
  ·simp at a
  ·rename_i b;rw[jA b];exact⟨(Vz _).1,λh=>absurd h (Vz _).2⟩
 ·rename_i f;rw[jA f];split at a
  ·rename_i b;simp only[b,if_true];unfold Ge at a ⊢;split at a
   ·simp at a
   ·rename_i d;rw[jA d];refine⟨sM,λ_=>?_⟩;have e:m.take ((2:Int),((Gy B6 m).length:Int)).2.toNat=Gy B6 m:=by
     show m.take (Int.toNat _)=_;rw[Int.toNat_natCast,zcz]
    rw[e];exact⟨λe=>by rw[e]at a;simp at a,Rq _ _,oM⟩
  ·rename_i b;rw[jA b];split at a
   ·rename_i d;simp[d]
   ·rename_i d;rw[jA d]
    have:=zje _ a;exact⟨this.1,λh=>absurd h this.2⟩
structure zlu(off:Nat)(m:List UInt8)(t:Tok):Prop where
 sort:t.sort≠0
 low:off<=t.fr
 lt:t.fr<t.to
 high:t.to<=off+m.length
 int:t.sort=2->Bv m (t.fr-off) (t.to-off) ≠ []/\(∀c∈Bv m (t.fr-off) (t.to-off),B6 c.toNat=true)/\(Bv m (t.fr-off) (t.to-off)).length<=9
theorem zlu.later{off k:Nat}{t:Tok}(f:k<=m.length)(h:zlu (off+k) (m.drop k) t):zlu off m t:=by
 have d:=h.low;have a:=h.lt;have b:=h.high;simp only[xD]at b;have e:Bv (m.drop k) (t.fr-(off+k)) (t.to-(off+k))=Bv m (t.fr-off) (t.to-off):=by
  unfold Bv;rw[List.drop_drop];congr 1
  ·omega
  ·congr 1;omega
 refine⟨h.sort,oM,a,oM,λc=>?_⟩
 have:=h.int c;rw[e]at this;exact this
theorem Lex.Eh:∀ {off:Nat} {m:zU} {b:List Tok},Lex off m b->(∀t∈b,zlu off m t)/\b.length<=m.length:=by
 intro off m b h
 induction h with
 |nil=>simp
 |@gap off m b h hg hr ih=>
  have d:0<m.length:=List.length_pos_iff.2 h;have k:=Vj m d;have c:(Mf m).toNat<=m.length:=oM;refine⟨λt a=>(ih.1 t a).later c,?_⟩
  have:=ih.2;simp only[xD]at this;omega
 |@tok off m b h hg h0 hr ih=>
  have d:0<m.length:=List.length_pos_iff.2 h;have j:=Tf m d;have c:(Au m).2.toNat<=m.length:=oM;refine⟨λt a=>?_,?_⟩
  ·simp only[zmC]at a;rcases a with rfl|a
   ·obtain⟨e,f⟩:=zjf h0;refine⟨e,znL _,by simp;omega,by simp;omega,λi=>?_⟩
    have:=f i;have g:Bv m (off-off) (off+(Au m).2.toNat-off)=m.take (Au m).2.toNat:=by
     unfold Bv;rw[Nat.sub_self,List.drop_zero,Nat.sub_zero,Nat.add_sub_cancel_left]
    simp only;rw[g];exact this
   ·exact(ih.1 t a).later c
  ·have:=ih.2;simp only[xD]at this;simp;omega
theorem zjg{l:zU}{j:List Tok}(h:split l=.ok j)(q:l.length<=300):zhq l j:=by
 obtain⟨d,k,rfl⟩:=J0.1 h;obtain⟨e,p⟩:=k.Eh;have f:∀(i:Nat) (t:Tok),(d++[⟨0,l.length,l.length⟩])[i]?=some t->(i<d.length/\t∈d)\/t=⟨0,l.length,l.length⟩:=by
  intro i t b;rcases yB i d.length with a|a
  ·rw[iA a]at b;exact .inl ⟨a,dD b⟩
  ·rw[fB a]at b
   have:=dD b;simp only[xB]at this;exact .inr this
 refine⟨by simp;omega,sM,⟨⟨0,l.length,l.length⟩,sM,rfl⟩,?_,?_,?_⟩
 ·intro i t b c;rw[iA (by simp at b;omega)]at c;exact(e t (dD c)).sort
 ·intro i t c;rcases f i t c with⟨_,a⟩|rfl
  ·have:=e t a;have n:=this.lt;have o:=this.high;omega
  ·simp
 ·intro i t c g;rcases f i t c with⟨_,a⟩|rfl
  ·have:=(e t a).int g;simp only[Nat.sub_zero]at this;exact zeb this.1 this.2.1 this.2.2
  ·simp at g
end
section
structure Mv where
 fr:Nat->Nat
 to:Nat->Nat
 val:Nat->Int->Int
 nm:Nat->List UInt8->List UInt8
def Gx(s:Int):Bool:=decide (s ∉ [23,15,19,20,21,22,1,2,10,11,12,13,16])
variable {l1 l2:List UInt8}{ts1 ts2:List Tok}{o N dd:Nat}{m:Mv}
theorem zjh{b:List Tok}{s:Int}{st st':PS}{t:Tok}(h:Bg b s st=some (t,st'))(a:st'.stuck=false)(g:s≠0):Ej b st=some t/\t.sort=s/\st'={st with next:=st.next+1}/\st.next<=300:=by
 unfold Bg at h;obtain⟨j,f,h⟩:=zbE.1 h;split at h
 ·rename_i e;split at h
  ·rename_i d;cases h;exact⟨f,e,rfl,d⟩
  ·cases h
 ·obtain⟨i,c,h⟩:=zbE.1 h;cases h;rw[(Dz c).1]at a;cases a
end
theorem zji{d:List Tok}{s:Int}{st st':PS}{k:Nat}(h:Fg d s st=some (k,st'))(a:st'.stuck=false):st.depth≠40/\st'.depth=st.depth+1/\st.stuck=false:=by
 have m:=Jm h;refine⟨λe=>?_,m.2,m.1 a⟩;unfold Fg at h;rw[mA e]at h;obtain⟨f,b,h⟩:=zbE.1 h;split at h
 ·obtain⟨⟨i,g⟩,c,h⟩:=zbE.1 h;cases h
  have:=(An c).1 a;simp only at this;rw[(Dz b).1]at this;cases this
 ·cases h
theorem De:∀(t:T) (env:List zU) (we:WEn),t.freeS env=none->(∀x,env.contains x=true->∃k,we.look x=some k)->∃w,Ah t we=some w
 |.name fr to x,env,we,h,hE=>by
  simp only[T.freeS]at h;split at h
  ·rename_i j;obtain⟨k,s⟩:=hE x j;exact⟨_,by simp only[Ah];rw[s];rfl⟩
  ·cases h
 |.int ..,_,_,_,_=>⟨_,rfl⟩
 |.Ak ..,_,_,_,_=>⟨_,rfl⟩
 |.side ..,_,_,_,_=>⟨_,rfl⟩
 |.bracket _ _ i,env,we,h,hE=>by
  obtain⟨w,p⟩:=De i env we h hE;exact⟨_,by simp only[Ah];rw[p];rfl⟩
 |.pair _ _ l r,env,we,h,hE=>by
  simp only[T.freeS,Option.or_eq_none_iff]at h;obtain⟨m,a⟩:=De l env we h.1 hE;obtain⟨o,e⟩:=De r env we h.2 hE;exact⟨_,by simp only[Ah];rw[a,e];rfl⟩
 |.call _ _ l r,env,we,h,hE=>by
  simp only[T.freeS,Option.or_eq_none_iff]at h;obtain⟨m,a⟩:=De l env we h.1 hE;obtain⟨o,e⟩:=De r env we h.2 hE;exact⟨_,by simp only[Ah];rw[a,e];rfl⟩
 |.binary _ _ _ l r,env,we,h,hE=>by
  simp only[T.freeS,Option.or_eq_none_iff]at h;obtain⟨m,a⟩:=De l env we h.1 hE;obtain⟨o,e⟩:=De r env we h.2 hE;exact⟨_,by simp only[Ah];rw[a,e];rfl⟩
 |.cond _ _ c t f,env,we,h,hE=>by
  simp only[T.freeS,Option.or_eq_none_iff]at h;obtain⟨m,a⟩:=De c env we h.1.1 hE;obtain⟨o,e⟩:=De t env we h.1.2 hE;obtain⟨y,q⟩:=De f env we h.2 hE;exact⟨_,by simp only[Ah];rw[a,e,q];rfl⟩
 |.fn _ _ bn _ b,env,we,h,hE=>by
  have n:∀x,(bn::env).contains x=true->∃k,(WEn.cons bn 1 we).look x=some k:=λx j=>by
   simp only[WEn.look];by_cases g:bn=x
   ·exact⟨1,by rw[mA g]⟩
   ·rw[jA g];simp only[List.contains_cons,Bool.or_eq_true,beq_iff_eq]at j;exact j.elim (λh=>absurd h.symm g) (hE x)
  obtain⟨w,p⟩:=De b (bn::env) _ h n;exact⟨_,by simp only[Ah];rw[p];rfl⟩
 |.Am _ _ rc bn _ d b,env,we,h,hE=>by
  have n:∀k x,(bn::env).contains x=true->∃v,(WEn.cons bn k we).look x=some v:=λk x j=>by
   simp only[WEn.look];by_cases g:bn=x
   ·exact⟨k,by rw[mA g]⟩
   ·rw[jA g];simp only[List.contains_cons,Bool.or_eq_true,beq_iff_eq]at j;exact j.elim (λh=>absurd h.symm g) (hE x)
  simp only[T.freeS,Option.or_eq_none_iff]at h;obtain⟨m,a⟩:∃w,Ah d (if rc then .cons bn 1 we else we)=some w:=by
   cases rc with
   |true=>exact De d (bn::env) _ h.1 (n 1)
   |false=>exact De d env _ h.1 hE
  obtain⟨o,e⟩:=De b (bn::env) (.cons bn m we) h.2 (n m);exact⟨_,by simp only[Ah];rw[a];simp only[zbS];rw[e];rfl⟩
theorem zpx(t:T):∃c f,∀n,c<=n->Oa n t=some f:=by
 cases a:t.freeS []with
 |some p=>exact⟨0,.fault 4 p,λn _=>by rw[Oa,a]⟩
 |none=>
  obtain⟨w,b⟩:=De t [] .nil a sM;by_cases d:2000<w
  ·exact⟨0,.fault 10 0,λn _=>by rw[Oa,a];simp only;rw[b];simp only[zbS];rw[mA d]⟩
  ·obtain⟨c,r,g,_⟩:=zd6 b oM;cases r with
   |none=>exact⟨c,.fault 5 0,λn e=>by rw[Oa,a];simp only;rw[b];simp only[zbS];rw[jA d,g n e];rfl⟩
   |some sh=>exact⟨c,.Ja t sh,λn e=>by rw[Oa,a];simp only;rw[b];simp only[zbS];rw[jA d,g n e];rfl⟩
theorem zpy(l:zU):∃e c,∀n,e<=n->Kf 6100 n l=some c:=by
 by_cases a:300<l.length
 ·exact⟨0,.fault 1 0,λn _=>by rw[Kf,mA a]⟩
 ·cases b:split l with
  |error p=>exact⟨0,.fault 2 p,λn _=>by rw[Kf,jA a,Un,b]⟩
  |ok ts=>
   obtain⟨r,d⟩:=zm7 (zjg b oM) 6100 oM;cases r with
   |error p=>exact⟨0,.fault 3 p,λn _=>by rw[Kf,jA a,Un,b];simp only;rw[d];rfl⟩
   |ok t=>
    obtain⟨h,c,g⟩:=zpx t;exact⟨h,c,λn f=>by rw[Kf,jA a,Un,b];simp only;rw[d];exact g n f⟩
theorem Kr{c b:Nat}{l:zU}{t:T}{sh:zU}(h:Kf c b l=some (.Ja t sh)):l.length<=300/\∃body,Lex 0 l body/\split l=.ok (body++[⟨0,l.length,l.length⟩])/\Gj l (body++[⟨0,l.length,l.length⟩]) c=some (.ok t)/\Oa b t=some (.Ja t sh):=by
 unfold Kf at h;split at h
 ·cases h
 ·rename_i g;refine⟨oM,?_⟩;unfold Un at h;cases a:split l with
  |error p=>rw[a]at h;cases h
  |ok ts=>
   rw[a]at h;simp only[zbE]at h;obtain⟨r,f,h⟩:=h;cases r with
   |error p=>cases h
   |ok t'=>
    obtain⟨body,d,rfl⟩:=J0.1 a;have e:t'=t:=by
     simp only at h;unfold Oa at h;split at h
     ·cases h
     ·simp only[zbE]at h;obtain⟨k,_,h⟩:=h;split at h
      ·cases h
      ·simp only[zbE]at h;obtain⟨o,_,h⟩:=h;cases o with
       |none=>cases h
       |some s=>cases h;rfl
    subst e;exact⟨body,d,rfl,f,h⟩
end
end Tw
section
open Go.RowKit
theorem zgb(x:Int)(n:Nat)(a:0<=x)(b:0<n):∃r:Nat,x.tmod n=r/\r<n:=by
 refine⟨(x.tmod n).toNat,?_,?_⟩
 ·rw[Int.tmod_eq_emod_of_nonneg a]
  have:=Int.emod_nonneg x (show(n:Int)≠0 by omega);omega
 ·rw[Int.tmod_eq_emod_of_nonneg a]
  have:=Int.emod_nonneg x (show(n:Int)≠0 by omega)
  have:=Int.emod_lt_of_pos x (show(0:Int)<n by omega);omega
structure zv4:Prop where
 ib:Ew.Hs
 pi:Ew.Ho
 fi:Ew.Nf
 fb:Ew.Lg
end
section
open Go.Proofs.Tryz
open Go.RowKit
section
variable{u x:Nat}{acc:List UInt8}
theorem Ox(w:World)(c:UInt8):(convert 66 9 (sL w.heap.size 1 1)).run prog (w.alloc (.cells #[vU c.toNat] 5))=.ok (ug [c]) (w.alloc (.cells #[vU c.toNat] 5)):=by
 have:=run_convert_bytes_back (P:=prog) (w.alloc (.cells #[vU c.toNat] 5)) 66 9 5 (aD w.heap.size 0) 1 [c] underlying66 underlying5 underlying9 (by
  intro j a;have:j=0:=by simpa using a
  subst this;rw[show(Addr.add (aD w.heap.size 0) 0)=((aD w.heap.size 0):Addr)from by simp[Addr.add]];exact(Hg (Ac w _)).1)
 exact this
def Tb(u x:Nat)(acc:zU):Prop:=(acc=[]/\x=u)\/(acc ≠ []/\Lib.decDigits u=(if x=0 then acc else Lib.decDigits x++acc))
theorem Tb.step{u x:Nat}{acc:zU}(h:Tb u x acc)(a:0<x\/acc=[]):Tb u (x / 10) (UInt8.ofNat (48+x % 10)::acc):=by
 refine .inr ⟨sM,?_⟩;have e:Lib.decDigits u=Lib.decDigits x++acc:=by
  rcases h with⟨rfl,rfl⟩|⟨c,h⟩
  ·simp
  ·rcases a with a|a
   ·rw[h,jA oM]
   ·exact absurd a c
 rw[e];by_cases b:x<10
 ·rw[mA oM];have:Lib.decDigits x=[UInt8.ofNat (48+x)]:=by unfold Lib.decDigits;rw[dif_pos b]
  rw[this,show x % 10=x from oM];rfl
 ·rw[jA oM];have:Lib.decDigits x=Lib.decDigits (x / 10)++[UInt8.ofNat (48+x % 10)]:=by
   conv=>lhs;unfold Lib.decDigits
   rw[dif_neg b]
  rw[this,wA];rfl
theorem Tb.done(h:Tb u x acc)(b:x=0)(a:acc ≠ []):acc=Lib.decDigits u:=by
 rcases h with⟨h,_⟩|⟨_,h⟩
 ·exact absurd h a
 ·rw[h,mA b]
theorem Tb.len(h:Tb u x acc)(b:u<9223372036854775808):acc.length<=19:=by
 have a:=(E8 18 u oM).2;rcases h with⟨rfl,_⟩|⟨_,h⟩
 ·simp
 ·rw[h]at a;split at a
  ·exact a
  ·simp at a;omega
theorem zm8(c:Nat)(acc:zU):Value.string ({data:=#[48+UInt8.ofNat c]} ++ {data:=acc.toArray})=ug (UInt8.ofNat (48+c)::acc):=by
 have e:(48+UInt8.ofNat c:UInt8)=UInt8.ofNat (48+c):=by simp[UInt8.ofNat_add]
 rw[e];rfl
end
end
section
open Go.RowKit
structure zt9:Prop extends zv4 where
 it:Ew.Fs
end
end Go.Proofs.YtckhafpejefbbaaGreatDoor
