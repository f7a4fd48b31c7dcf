import Derived.Test.YtckhafpejefbbaaGreatDoorProg
import Derived.Test.YtckhafpejefbbaaGreatDoorB02
import Derived.WalkSpells
import Derived.WalkLawsBesides
import Derived.Deep.Light
import Derived.Lib.IndexBytes

set_option maxRecDepth 100000
set_option maxHeartbeats 4000000
namespace Go.RowKit
theorem Hid.o{p:Prop}(h:Hid p):p:=h
end Go.RowKit
namespace Go.Proofs.YtckhafpejefbbaaGreatDoor
section
abbrev vI(n:Int):Value:=.int .i64 n
abbrev vU(n:Int):Value:=.int .u8 n
theorem oM{p:Prop}(h:p:=by omega):p:=h
abbrev jA:=@if_neg
abbrev mA:=@if_pos
end
section
open Tw Go.Proofs.Tryz
open Go.RowKit
variable{k:IntKind}{a b:Int}
theorem Ei{a b:Bool}(h:a=b):Ending.returned (.bool a)=.returned (.bool b):=by rw[h]
theorem Ej(h:a=b):Ending.returned (.int k a)=.returned (.int k b):=by rw[h]
theorem Mw{j:IntKind}{c d:Int}(h:a=b)(g:c=d):Ending.returned (.tuple #[.int k a,.int j c])=.returned (.tuple #[.int k b,.int j d]):=by rw[h,g]
theorem I0(c:Int)(w:World)(f:0<=c)(g:c<=255):
  Calls prog 147 #[vU c] w λe d=>e=.returned (.bool (Du c))/\w=d:=by
 go_in
 go_wp2
 all_goals (go_ret;exact⟨Ei (by simp[Du];omega),rfl⟩)
theorem Hk(c:Int)(w:World)(f:0<=c)(g:c<=255):
  Calls prog 151 #[vU c] w λe d=>e=.returned (.bool (Bj c))/\w=d:=by
 go_in
 go_wp2
 all_goals (go_ret;exact⟨Ei (by simp[Bj];omega),rfl⟩)
theorem Oc(c:Int)(w:World)(f:0<=c)(g:c<=255):
  Calls prog 150 #[vU c] w λe d=>e=.returned (.bool (Df c))/\w=d:=by
 go_in;cases h:Du c
 ·go_wp2_with (first|(go_at_call 147;refine(I0 _ _ f g).mono ?_;rintro e d ⟨rfl,rfl⟩;rw[h])|(go_at_call 151;refine(Hk _ _ f g).mono ?_;rintro e d ⟨rfl,rfl⟩));go_ret;exact⟨Ei (by simp[Du]at h;simp[Df,Bj];omega),rfl⟩
 ·go_wp2_with (first|(go_at_call 147;refine(I0 _ _ f g).mono ?_;rintro e d ⟨rfl,rfl⟩;rw[h])|(go_at_call 151;refine(Hk _ _ f g).mono ?_;rintro e d ⟨rfl,rfl⟩));go_ret;exact⟨Ei (by simp[Du]at h;simp[Df];omega),rfl⟩
theorem zig(c:Int)(w:World):
  Calls prog 154 #[vU c] w λe d=>e=.returned (.tuple #[vI (Gh c).1,vI (Gh c).2])/\w=d:=by
 go_in
 go_wp2
 all_goals (go_ret2;exact⟨by simp_all[Gh],rfl⟩)
theorem Y8(s:ByteArray)(w:World):
    Calls prog 199 #[.string s] w λe c=>e=.returned (vI (Cg s.data.toList))/\w=c:=by
  go_in
  go_wp2
  all_goals (go_ret;go_light;exact⟨Ej (by simp only[beq_iff_eq,beq_eq_false_iff_ne,ne_eq,Lib.toList_data]at *;simp[Cg, *]),rfl⟩)
theorem zih(s:ByteArray)(w:World)(f:s.size<=300):
  Calls prog 148 #[.string s] w λe c=>e=.returned (.tuple #[vI (Hq s.data.toList).1,vI (Hq s.data.toList).2])/\w=c:=by
 have d:s.data.toList.length=s.size:=rfl;by_cases h:s.size<=6
 ·go_in;go_wp2_with (go_at_call 199;refine(Y8 _ _).mono ?_;rintro e c ⟨rfl,rfl⟩)
  go_ret2;exact⟨Mw (by rw[Hq,jA oM]) (by rw[Hq,jA oM];rfl),rfl⟩
 ·go_in;go_wp2_with fail
  go_ret2;exact⟨Mw (by rw[Hq,mA oM]) (by rw[Hq,mA oM]),rfl⟩
theorem zct(s:ByteArray)(w:World)(f:s.size<=300):
  Calls prog 152 #[.string s] w λe c=>e=.returned (.tuple #[vI (Eu s.data.toList).1,vI (Eu s.data.toList).2])/\w=c:=by
 have d:s.data.toList.length=s.size:=rfl;by_cases h:s.size<=9
 ·go_in;go_wp2_with fail
  go_ret2;exact⟨Mw (by rw[Eu,jA oM]) (by rw[Eu,jA oM];rfl),rfl⟩
 ·go_in;go_wp2_with fail
  go_ret2;exact⟨Mw (by rw[Eu,mA oM]) (by rw[Eu,mA oM]),rfl⟩
def Said.IndexByte:Prop:=∀(s:ByteArray) (c:Int) (w:World),
  Calls prog 146 #[.string s,.int .u8 c] w λe d=>e=.returned (.int .i64 (Lib.indexByte s.data.toList c.toNat.toUInt8))/\w=d
theorem Za(g:Said.IndexByte)(s:ByteArray)(w:World)(f:0<s.size)(j:s.size<=300):
  Calls prog 79 #[.string s] w λe d=>e=.returned (vI (gapL s.data.toList))/\w=d:=by
 have h:=Pg s f;have H:Hid (Ce s.data.toList=s[0].toNat):=h;have c:=Re s.data.toList 125;have i:s.data.toList.length=s.size:=rfl;rw[i]at c;obtain⟨l,m⟩:=c
 go_in;go_wp2_with (go_at_call 146;refine(g _ _ _).mono ?_;rintro e d ⟨rfl,rfl⟩)
 all_goals (go_ret;go_light;exact⟨Ej (by have:=H.o;simp_all[gapL]),rfl⟩)
end
section
abbrev lD:=@List.drop_eq_getElem_cons
abbrev eE:=@List.getElem_of_mem
end
section
open Tw Go.Proofs.Tryz
open Go.RowKit
variable{a b:ByteArray}
theorem Sv(p:Int->Bool)(l:List UInt8)(k:Nat)(h:k<l.length)(f:∀j (c:j<k),p (l[j]'oM).toNat=true):
  (p l[k].toNat=false->runL p l=l.take k):=by
 intro g;unfold runL
 conv=>lhs;rw[<-List.take_append_drop k l]
 rw[List.takeWhile_append_of_pos]
 ·have e:l.drop k=l[k]::l.drop (k+1):=by rw[lD h]
  rw[e,List.takeWhile_cons_of_neg (by simp[g])];simp
 ·intro a d;obtain⟨j,c,rfl⟩:=eE d;rw[List.getElem_take];exact f j (by simp at c;omega)
theorem Py{c :Type}(p :c -> Bool):∀(l:List c),(∀a∈l,p a=true)->l.takeWhile p=l
 |[],_=>rfl
 |a::l,h=>by
  rw[List.takeWhile_cons_of_pos (h a sM),Py p l λb d=>h b (by simp[d])]
theorem Od(p:Int->Bool)(l:List UInt8)(e:∀j (c:j<l.length),p l[j].toNat=true):runL p l=l:=by
 unfold runL;refine Py _ _ λa d=>?_;obtain⟨j,c,rfl⟩:=eE d;exact e j c
theorem zcu(h:a.data.toList=b.data.toList):a=b:=by
 obtain⟨⟨l⟩⟩:=a;obtain⟨⟨m⟩⟩:=b;simp at h;rw[h]
theorem Jm(s:ByteArray)(k:Nat):s.extract 0 k=⟨(s.data.toList.take k).toArray⟩:=by
 apply zcu;rw[Lib.extract_data];simp
theorem Va(h:a=b):Ending.returned (.string a)=.returned (.string b):=by rw[h]
theorem zii(s:ByteArray)(w:World)(o:s.size<=300):
  Calls prog 149 #[.string s,.func (.func 150) #[] #[]] w λe f=>e=.returned (.string ⟨(runL Df s.data.toList).toArray⟩)/\w=f:=by
 go_in;go_wp2_with fail
 go_loop [5] (λi=>∃k:Nat,k<=s.size/\i=vI k/\∀j (c:j<s.data.toList.length),j<k->Df (s.data.toList[j]).toNat=true) (λi=>s.size-(intOf i).toNat)
 case atStart=>exact⟨0,oM,rfl,oM⟩
 case round=>
  obtain⟨k,q,rfl,m⟩:=hrel;have d:Hid (∀j (c:j<s.data.toList.length),j<k->Df (s.data.toList[j]).toNat=true):=m;by_cases n:k<s.size
  ·cases h:Df s[k].toNat
   ·go_wp2_with (go_at_call 150;refine(Oc _ _ oM (by have:=s[k].toNat_lt;omega)).mono ?_;rintro e f ⟨rfl,rfl⟩);go_ret;go_light;refine⟨Va ?_,rfl⟩;rw[Jm,Sv Df s.data.toList k n (λj c=>d.o j _ c) h]
   ·go_wp2_with (go_at_call 150;refine(Oc _ _ oM (by have:=s[k].toNat_lt;omega)).mono ?_;rintro e f ⟨rfl,rfl⟩);go_round
    case rel=>
     go_light;refine⟨k+1,oM,by go_num,λj c p=>?_⟩;by_cases l:j<k
     ·exact d.o j c l
     ·have:j=k:=oM;subst this;exact h
    case measure=>go_light;simp[intOf];omega
  ·go_wp2_with fail;go_ret;go_light;refine⟨Va ?_,rfl⟩;have g:k=s.size:=oM;rw[Jm,Od Df s.data.toList (λj c=>d.o j c (by rw[g];exact c)),g];rw[List.take_of_length_le (show s.data.toList.length<=s.size from znL _)]
theorem zf2(s:ByteArray)(w:World)(o:s.size<=300):
  Calls prog 149 #[.string s,.func (.func 151) #[] #[]] w λe f=>e=.returned (.string ⟨(runL Bj s.data.toList).toArray⟩)/\w=f:=by
 go_in;go_wp2_with fail
 go_loop [5] (λi=>∃k:Nat,k<=s.size/\i=vI k/\∀j (c:j<s.data.toList.length),j<k->Bj (s.data.toList[j]).toNat=true) (λi=>s.size-(intOf i).toNat)
 case atStart=>exact⟨0,oM,rfl,oM⟩
 case round=>
  obtain⟨k,q,rfl,m⟩:=hrel;have d:Hid (∀j (c:j<s.data.toList.length),j<k->Bj (s.data.toList[j]).toNat=true):=m;by_cases n:k<s.size
  ·cases h:Bj s[k].toNat
   ·go_wp2_with (go_at_call 151;refine(Hk _ _ oM (by have:=s[k].toNat_lt;omega)).mono ?_;rintro e f ⟨rfl,rfl⟩);go_ret;go_light;refine⟨Va ?_,rfl⟩;rw[Jm,Sv Bj s.data.toList k n (λj c=>d.o j _ c) h]
   ·go_wp2_with (go_at_call 151;refine(Hk _ _ oM (by have:=s[k].toNat_lt;omega)).mono ?_;rintro e f ⟨rfl,rfl⟩);go_round
    case rel=>
     go_light;refine⟨k+1,oM,by go_num,λj c p=>?_⟩;by_cases l:j<k
     ·exact d.o j c l
     ·have:j=k:=oM;subst this;exact h
    case measure=>go_light;simp[intOf];omega
  ·go_wp2_with fail;go_ret;go_light;refine⟨Va ?_,rfl⟩;have g:k=s.size:=oM;rw[Jm,Od Bj s.data.toList (λj c=>d.o j c (by rw[g];exact c)),g];rw[List.take_of_length_le (show s.data.toList.length<=s.size from znL _)]
theorem Yc(p:Int->Bool)(s:ByteArray)(h:s.size<=300):(⟨(runL p s.data.toList).toArray⟩:ByteArray).size<=300:=by
 have:=(List.takeWhile_sublist (λc:UInt8=>p c.toNat) (l:=s.data.toList)).length_le;have e:(⟨(runL p s.data.toList).toArray⟩:ByteArray).size=(runL p s.data.toList).length:=by simp[ByteArray.size]
 have g:s.data.toList.length=s.size:=rfl;unfold runL at e ⊢;omega
theorem zcv(s:ByteArray)(w:World)(f:0<s.size)(d:s.size<=300)(g:Du s[0].toNat=true):
  Calls prog 80 #[.string s] w λe c=>e=.returned (.tuple #[vI (Ao s.data.toList).1,vI (Ao s.data.toList).2])/\w=c:=by
 have H:Hid (Ce s.data.toList=s[0].toNat):=Pg s f;have h:=s[0].toNat_lt
 go_in;go_wp2_with (first|(go_at_call 147;refine(I0 _ _ oM oM).mono ?_;rintro e c ⟨rfl,rfl⟩)|(go_at_call 149;refine(zii _ _ d).mono ?_;rintro e c ⟨rfl,rfl⟩)|(go_at_call 148;refine(zih _ _ (Yc _ _ d)).mono ?_;rintro e c ⟨rfl,rfl⟩))
 go_ret2;go_light;refine⟨Mw ?_ ?_,rfl⟩<;>simp[Ao,H.o,g]
theorem Zb(s:ByteArray)(w:World)(f:0<s.size)(d:s.size<=300)(h:Du s[0].toNat=false)(g:Bj s[0].toNat=true):
  Calls prog 80 #[.string s] w λe c=>e=.returned (.tuple #[vI (Ao s.data.toList).1,vI (Ao s.data.toList).2])/\w=c:=by
 have H:Hid (Ce s.data.toList=s[0].toNat):=Pg s f;have i:=s[0].toNat_lt
 go_in;go_wp2_with (first|(go_at_call 147;refine(I0 _ _ oM oM).mono ?_;rintro e c ⟨rfl,rfl⟩)|(go_at_call 151;refine(Hk _ _ oM oM).mono ?_;rintro e c ⟨rfl,rfl⟩)|(go_at_call 149;refine(zf2 _ _ d).mono ?_;rintro e c ⟨rfl,rfl⟩)|(go_at_call 152;refine(zct _ _ (Yc _ _ d)).mono ?_;rintro e c ⟨rfl,rfl⟩))
 go_ret2;go_light;refine⟨Mw ?_ ?_,rfl⟩<;>simp[Ao,H.o,h,g]
theorem Zc(s:ByteArray)(w:World)(f:0<s.size)(g:s.size<=300):
  Calls prog 153 #[.string s,.string ⟨#[45,62]⟩] w λe d=>e=.returned (.bool (decide (s.data.toList.take 2=[45,62])))/\w=d:=by
 by_cases h:2<=s.size
 ·go_in
  go_wp2;go_ret;go_light;refine⟨Ei ?_,rfl⟩;rw[Lib.extract_toList];rw[Bool.eq_iff_iff];simp
 ·go_in
  go_wp2;go_ret;go_light;refine⟨Ei ?_,rfl⟩;have i:s.data.toList.length=s.size:=rfl;symm;rw[decide_eq_false_iff_not];intro c
  have:=congrArg List.length c;simp at this;omega
theorem zcw(s:ByteArray)(w:World)(f:0<s.size)(g:s.size<=300)(j:Du s[0].toNat=false)(i:Bj s[0].toNat=false):
  Calls prog 80 #[.string s] w λe c=>e=.returned (.tuple #[vI (Ao s.data.toList).1,vI (Ao s.data.toList).2])/\w=c:=by
 have H:Hid (Ce s.data.toList=s[0].toNat):=Pg s f;have k:=s[0].toNat_lt;cases h:decide (s.data.toList.take 2=[45,62])
 all_goals
  have d:Hid (decide (s.data.toList.take 2=[45,62])=_):=h
  go_in;go_wp2_with (first|(go_at_call 147;refine(I0 _ _ oM oM).mono ?_;rintro e c ⟨rfl,rfl⟩)|(go_at_call 151;refine(Hk _ _ oM oM).mono ?_;rintro e c ⟨rfl,rfl⟩)|(go_at_call 153;refine(Zc _ _ f g).mono ?_;rintro e c ⟨rfl,rfl⟩;rw[d.o])|(go_at_call 154;refine(zig _ _).mono ?_;rintro e c ⟨rfl,rfl⟩))
  go_ret2;go_light
  have:=d.o;simp at this;refine⟨Mw ?_ ?_,rfl⟩<;>simp[Ao,H.o,j,i,this]
theorem Yd(s:ByteArray)(w:World)(c:0<s.size)(d:s.size<=300):
  Calls prog 80 #[.string s] w λe h=>e=.returned (.tuple #[vI (Ao s.data.toList).1,vI (Ao s.data.toList).2])/\w=h:=by
 cases f:Du s[0].toNat
 ·cases g:Bj s[0].toNat
  ·exact zcw s w c d f g
  ·exact Zb s w c d f g
 ·exact zcv s w c d f
end
end Go.Proofs.YtckhafpejefbbaaGreatDoor
namespace Go.Proofs.YtckhafpejefbbaaGreatDoor.Tw
section
open Go
structure Tok where
 sort:Int
 fr:Nat
 to:Nat
 deriving DecidableEq
def Cb(l:List UInt8):Nat->Nat->List Tok->Except Nat (List Tok)
 |0,k,_=>.error k
 |fuel+1,k,acc=>
  if k<l.length then
   if 0<gapL (l.drop k)then Cb l fuel (k+(gapL (l.drop k)).toNat) acc
   else if(Ao (l.drop k)).2=0 then .error k
   else Cb l fuel (k+(Ao (l.drop k)).2.toNat) (acc++[⟨(Ao (l.drop k)).1,k,k+(Ao (l.drop k)).2.toNat⟩])
  else .ok (acc++[⟨0,k,k⟩])
def split(l:List UInt8):Except Nat (List Tok):=Cb l (l.length+1) 0 []
theorem Rg(l:List UInt8)(h:0<l.length):0<=gapL l/\gapL l<=l.length:=by
 unfold gapL
 have:=Re l 125;split
 ·omega
 ·split<;>omega
theorem ze5(p:Int->Bool)(l:List UInt8):(runL p l).length<=l.length:=
 (List.takeWhile_sublist (λc:UInt8=>p c.toNat) (l:=l)).length_le
theorem zij(c:Int):0<=(Gh c).2/\(Gh c).2<=1:=by
 unfold Gh
 repeat' split
 all_goals simp
theorem Ph(l:List UInt8)(h:0<l.length):0<=(Ao l).2/\(Ao l).2<=l.length:=by
 have d:=ze5 Df l;have b:=ze5 Bj l;have c:=zij (Ce l);unfold Ao;split
 ·unfold Hq;split<;>simp;omega
 ·split
  ·unfold Eu;split<;>simp;omega
  ·split
   ·rename_i a
    have:=congrArg List.length a;simp at this;simp;omega
   ·omega
end
end Go.Proofs.YtckhafpejefbbaaGreatDoor.Tw
namespace Go.Proofs.YtckhafpejefbbaaGreatDoor
section
theorem kR{p:Prop}(h:p:=by kernel_rfl):p:=h
end
section
open Tw Go.Proofs.Tryz
open Go.RowKit
def St(t:Tw.Tok):List Value:=[.int .i64 t.sort,.int .i64 t.fr,.int .i64 t.to]
def Ch:List Tw.Tok->List Value
 |[]=>[]
 |t::l=>St t++Ch l
theorem Lx(a b:List Tw.Tok):Ch (a++b)=Ch a++Ch b:=by
 induction a with
 |nil=>rfl
 |cons t a ih=>simp[Ch,ih]
theorem Cx(w:World)(a b c:Value)(t:TypeId):∀j u,[a,b,c][j]?=some u->(w.alloc (.cells #[a,b,c] t)).cell? (((aD w.heap.size 0):Addr).add j)=some u:=by
 intro j u d
 match j,d with
 |0,d=>simp at d;subst d;simp[Addr.add]
 |1,d=>simp at d;subst d;simp[Addr.add]
 |2,d=>simp at d;subst d;simp[Addr.add]
 |j+3,d=>simp at d
theorem zf4(s:ByteArray)(k:Nat):(s.extract k s.size).data.toList=s.data.toList.drop k:=Lib.extract_to_end s k
theorem zf5(s:ByteArray)(k:Nat):(s.extract k s.size).size=s.size-k:=by
 simp[ByteArray.size_extract]
theorem Tryz.info176:(Tryz.prog.info? 176).map (λi=>(i.zero,i.size,i.bytes))=some (some (.agg #[vI 0,vI 0,vI 0]),3,24):=kR
def zie(s:ByteArray)(w:World)(e:Ending)(a:World):Prop:=Below w.heap.size w a /\
   match split s.data.toList with
   |.error k=>e=.returned (.tuple #[.slice none 0 0,.int .i64 k,.bool false])
   |.ok ts=>∃v,e=.returned (.tuple #[v,.int .i64 0,.bool true])/\a.ownsRow w.heap.size 176 3 v ts.length (Ch ts)
theorem Jn{k:IntKind}{a b:Int}(h:a=b):Value.int k a=.int k b:=by rw[h]
theorem Sw (hIB:Said.IndexByte) (s:ByteArray) (w:World) (h1:s.size<=300) :
    Calls Tryz.prog 46 #[.string s] w (zie s w):=by
  obtain ⟨i0,hi,hz0,hz1,hz2⟩:=info_parts Tryz.info176
  go_enter Tryz.func46,Tryz.ntmps46
  go_wp2_with fail
  go_loopw [5,6] (fun v i wr=>∃(k fuel:Nat) (acc:List Tw.Tok),i = .int .i64 k/\k<=s.size/\s.size<k+fuel/\acc.length<=k/\wr.ownsRow w.heap.size 176 3 v acc.length (Ch acc)/\Below w.heap.size w wr/\Hid (Tw.split s.data.toList=Tw.Cb s.data.toList fuel k acc)) (fun _ i _=>s.size-(intOf i).toNat)
  case atStart=>exact ⟨0,s.size+1,[],rfl,by omega,by omega,by simp,World.ownsRow_nil _ _ _ _,Below.refl _ _,rfl⟩
  case round =>
    obtain ⟨k,fuel,acc,rfl,hk,hf,ha,hown,hb,HS⟩:=hrel
    obtain ⟨fuel,rfl⟩:∃f',fuel=f'+1:=⟨fuel-1,by omega⟩
    have hl:s.data.toList.length=s.size:=rfl
    by_cases hlt:k<s.size
    · have hds:=zf5 s k
      have hdl:=zf4 s k
      have HD:Hid ((s.extract k s.size).data.toList=s.data.toList.drop k):=hdl
      have HL:Hid (s.data.toList.length=s.size):=hl
      have g0:=Tw.Rg (s.data.toList.drop k) (by simp; omega)
      have f0:=Tw.Ph (s.data.toList.drop k) (by simp; omega)
      rw [List.length_drop,hl] at g0 f0
      generalize hG:Tw.gapL (s.data.toList.drop k)=G at *
      generalize hF:Tw.Ao (s.data.toList.drop k)=F at *
      obtain ⟨srt,len⟩:=F
      have HG:Hid (Tw.gapL (s.data.toList.drop k)=G):=hG
      have HF:Hid (Tw.Ao (s.data.toList.drop k)=(srt,len)):=hF
      clear hG hF hdl hl
      simp only at f0
      obtain ⟨g1,g2⟩:=g0
      obtain ⟨f1,f2⟩:=f0
      by_cases hgp:0<G
      · go_wp2_with (go_at_call 79; refine (Za hIB _ _ (by omega) (by omega)).mono ?_; rintro e w' ⟨rfl,rfl⟩; rw [HD.out,HG.out])
        go_roundw
        case rel =>
          go_light
          refine ⟨k+G.toNat,fuel,acc,Jn (by omega),by omega,by omega,by omega,hown,hb,?_⟩
          show _=_
          rw [HS.out,Tw.Cb,if_pos (by rw [HL.out]; exact hlt),HG.out,if_pos hgp]
        case measure=>go_light; simp [intOf]; omega
      · by_cases hz:len=0
        · go_wp2_with (first | (go_at_call 79; refine (Za hIB _ _ (by omega) (by omega)).mono ?_; rintro e w' ⟨rfl,rfl⟩; rw [HD.out,HG.out]) | (go_at_call 80; refine (Yd _ _ (by omega) (by omega)).mono ?_; rintro e w' ⟨rfl,rfl⟩; rw [HD.out,HF.out]))
          go_ret3
          go_light
          refine ⟨hb,?_⟩
          rw [HS.out,Tw.Cb,if_pos (by rw [HL.out]; exact hlt),HG.out,if_neg (by omega),HF.out,if_pos hz]
          rfl
        · have hz':(len==0)=false:=by simp [hz]
          clear hz
          go_wp2_with (first
            | (go_at_call 79; refine (Za hIB _ _ (by omega) (by omega)).mono ?_; rintro e w' ⟨rfl,rfl⟩; rw [HD.out,HG.out])
            | (go_at_call 80; refine (Yd _ _ (by omega) (by omega)).mono ?_; rintro e w' ⟨rfl,rfl⟩; rw [HD.out,HF.out])
            | (at_builtin; refine wpList_append_own _ rfl _ _ 106 rfl w.heap.size 176 i0 (.agg #[.int .i64 0,.int .i64 0,.int .i64 0]) 3 24 Tryz.underlying106 hi hz0 hz1 hz2 rfl (by decide) _ _ _ rfl (hown.alloc _) ⟨wr.heap.size,0,none⟩ 1 1 [.int .i64 srt,.int .i64 k,.int .i64 (k+len)] rfl rfl (Cx _ _ _ _ _) (by intro u hu; simp at hu; rcases hu with rfl | rfl | rfl <;> rfl) (by unfold maxLen; omega) (by omega) (by have:=hb.size; simp; omega) ?_; intro v3 w3 hown3 hgrow3 hnil3
               have hb3:Below w.heap.size w w3:=Below.grown (hb.alloc hb.size _) hgrow3 (by have:=hb.size; simp; omega) (fun j hj=>(hown.lt _ hj).1)
               have X:Aside (w3.ownsRow w.heap.size 176 3 v3 (acc.length+1) (Ch acc ++ [.int .i64 srt,.int .i64 k,.int .i64 (k+len)])/\Below w.heap.size w w3):=⟨hown3,hb3⟩
               clear hown3 hgrow3 hnil3 hb3))
          go_roundw
          case rel =>
            go_light
            refine ⟨k+len.toNat,fuel,acc ++ [⟨srt,k,k+len.toNat⟩],Jn (by omega),by omega,?_,?_,?_,X.out.2,?_⟩
            · have:len≠0:=by simpa using hz'
              omega
            · have:len≠0:=by simpa using hz'
              simp; omega
            · rw [Lx,List.length_append]
              have e:Ch [(⟨srt,k,k+len.toNat⟩:Tw.Tok)]=[.int .i64 srt,.int .i64 k,.int .i64 (k+len)]:=by
                simp [Ch,St]; omega
              rw [e]
              exact X.out.1
            · show _=_
              rw [HS.out,Tw.Cb,if_pos (by rw [HL.out]; exact hlt),HG.out,if_neg (by omega),HF.out,if_neg (by simpa using hz')]
          case measure => go_light; have:len≠0:=by simpa using hz'
                          simp [intOf]; omega
    · have HL:Hid (s.data.toList.length=s.size):=hl
      clear hl
      go_wp2_with (at_builtin; refine wpList_append_own _ rfl _ _ 106 rfl w.heap.size 176 i0 (.agg #[.int .i64 0,.int .i64 0,.int .i64 0]) 3 24 Tryz.underlying106 hi hz0 hz1 hz2 rfl (by decide) _ _ _ rfl (hown.alloc _) ⟨wr.heap.size,0,none⟩ 1 1 [.int .i64 0,.int .i64 k,.int .i64 k] rfl rfl (Cx _ _ _ _ _) (by intro u hu; simp at hu; rcases hu with rfl | rfl | rfl <;> rfl) (by unfold maxLen; omega) (by omega) (by have:=hb.size; simp; omega) ?_; intro v3 w3 hown3 hgrow3 hnil3
                   have hb3:Below w.heap.size w w3:=Below.grown (hb.alloc hb.size _) hgrow3 (by have:=hb.size; simp; omega) (fun j hj=>(hown.lt _ hj).1)
                   have X:Aside (w3.ownsRow w.heap.size 176 3 v3 (acc.length+1) (Ch acc ++ [.int .i64 0,.int .i64 k,.int .i64 k])/\Below w.heap.size w w3):=⟨hown3,hb3⟩
                   clear hown3 hgrow3 hnil3 hb3)
      go_ret3
      go_light
      refine ⟨X.out.2,?_⟩
      rw [HS.out,Tw.Cb,if_neg (by rw [HL.out]; omega)]
      refine ⟨_,rfl,?_⟩
      rw [Lx,List.length_append]
      exact X.out.1
end
end Go.Proofs.YtckhafpejefbbaaGreatDoor
