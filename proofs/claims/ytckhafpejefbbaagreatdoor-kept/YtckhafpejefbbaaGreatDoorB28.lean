/- Texts of the proof, put together: InlAll, InlAll2, InlScope, InlFine, TextRen, RegRound, RegWide, AltInl, AltInl2, AltInl3. -/
import Derived.Test.YtckhafpejefbbaaGreatDoorB27
import Derived.Test.YtckhafpejefbbaaGreatDoorB25
import Derived.Test.YtckhafpejefbbaaGreatDoorB26
import Derived.Test.YtckhafpejefbbaaGreatDoorB13
import Derived.Test.YtckhafpejefbbaaGreatDoorB20
import Derived.Deep.RegionHeld3
import Derived.Test.YtckhafpejefbbaaGreatDoorB24
import Derived.Sort.QuietTacIn

set_option maxRecDepth 100000
set_option maxHeartbeats 4000000
namespace Go.Proofs.YtckhafpejefbbaaGreatDoor.Tw
namespace Inl
open Go
def frK:GK->List Tok->T->Prop
 | .chF _ _ a,_,t=>t.fr=a.fr
 | .caF a,_,t=>t.fr=a.fr
 | _,ws,t=>∃tk r,ws=tk::r/\t.fr=tk.fr
theorem ztr {l:List UInt8} {tk:Tok} {x:T} (h:zeq l tk=some x):x.fr=tk.fr/\x.to=tk.to/\∀f∈x.places,f=tk.fr/\(zal tk.sort=true->tk.sort≠16->tk.sort=1):=by
 unfold zeq at h
 split at h
 ·split at h
  ·obtain ⟨v,_,h⟩:=zbE.1 h
   cases h
   exact ⟨rfl,rfl,fun f hf=>by cases hf⟩
  ·cases h
 ·rename_i h2
  split at h
  ·cases h; exact ⟨rfl,rfl,fun f hf=>by cases hf⟩
  ·rename_i h3
   split at h
   ·cases h; exact ⟨rfl,rfl,fun f hf=>by cases hf⟩
   ·rename_i h4
    split at h
    ·cases h
     refine ⟨rfl,rfl,fun f hf=>⟨by simpa [T.places] using hf,fun hb h16 => ?_⟩⟩
     simp only [zal,decide_eq_true_eq] at hb
     omega
    ·cases h
theorem G.begins {l:List UInt8} {k:GK} {ws:List Tok} {t:T} (h:G l k ws t):frK k ws t:=by
 induction h with
 | lett=>exact ⟨_,_,rfl,rfl⟩
 | fn=>exact ⟨_,_,rfl,rfl⟩
 | cond=>exact ⟨_,_,rfl,rfl⟩
 | ecmp _ ih=>exact ih
 | cmp1 _ ih=>exact ih
 | cmp2 _ _ _ ih _=>obtain ⟨tk,r,rfl,e⟩:=ih; exact ⟨tk,_,rfl,e⟩
 | sum _ _ ih ih2=>obtain ⟨tk,r,rfl,e⟩:=ih; exact ⟨tk,_,rfl,ih2.trans e⟩
 | term _ _ ih ih2=>obtain ⟨tk,r,rfl,e⟩:=ih; exact ⟨tk,_,rfl,ih2.trans e⟩
 | chN=>rfl
 | chC _ _ _ _ ih2=>exact ih2
 | call _ _ ih ih2=>obtain ⟨tk,r,rfl,e⟩:=ih; exact ⟨tk,_,rfl,ih2.trans e⟩
 | caN=>rfl
 | caC _ _ _ ih2=>exact ih2
 | leaf _ _ h=>exact ⟨_,_,rfl,(ztr h).1⟩
 | bracket=>exact ⟨_,_,rfl,rfl⟩
 | pair=>exact ⟨_,_,rfl,rfl⟩
def toK:GK->List Tok->T->Prop
 | .chF _ _ a,ws,t=>(ws=[]/\t=a)\/∃q tz,ws=q ++ [tz]/\t.to=tz.to
 | .caF a,ws,t=>(ws=[]/\t=a)\/∃q tz,ws=q ++ [tz]/\t.to=tz.to
 | _,ws,t=>∃q tz,ws=q ++ [tz]/\t.to=tz.to
theorem zya {w1 w2:List Tok} {x t:T} (h1:∃q tz,w1=q ++ [tz]/\x.to=tz.to) (h2:(w2=[]/\t=x)\/∃q tz,w2=q ++ [tz]/\t.to=tz.to):∃q tz,w1++w2=q ++ [tz]/\t.to=tz.to:=by
 rcases h2 with ⟨rfl,rfl⟩ | ⟨q,tz,rfl,e⟩
 ·rw [List.append_nil]; exact h1
 ·exact ⟨w1++q,tz,by rw [List.append_assoc],e⟩
theorem zy9 {w1 w2:List Tok} {u y t:T} (hu:u.to=y.to) (h1:∃q tz,w1=q ++ [tz]/\y.to=tz.to) (h2:(w2=[]/\t=u)\/∃q tz,w2=q ++ [tz]/\t.to=tz.to):∃q tz,w1++w2=q ++ [tz]/\t.to=tz.to:=by
 rcases h2 with ⟨rfl,rfl⟩ | ⟨q,tz,rfl,e⟩
 ·obtain ⟨q,tz,rfl,e⟩:=h1
  exact ⟨q,tz,by rw [List.append_nil],hu.trans e⟩
 ·exact ⟨w1++q,tz,by rw [List.append_assoc],e⟩
theorem G.ends {l:List UInt8} {k:GK} {ws:List Tok} {t:T} (h:G l k ws t):toK k ws t:=by
 induction h with
 | @lett tl tn te ti rcs ds bs rc d b hl hrc hn he hi hp D B ihD ihB =>
  obtain ⟨q,tz,rfl,e⟩:=ihB
  exact ⟨tl::(rcs++tn::te::(ds++ti::q)),tz,by simp,e⟩
 | @fn tl tn ta bs b hl hn ha hp B ihB =>
  obtain ⟨q,tz,rfl,e⟩:=ihB
  exact ⟨tl::tn::ta::q,tz,by simp,e⟩
 | @cond tl t1 t2 cs xs ys c x y hl h1 h2 C X Y ihC ihX ihY =>
  obtain ⟨q,tz,rfl,e⟩:=ihY
  exact ⟨tl::(cs++t1::(xs++t2::q)),tz,by simp,e⟩
 | ecmp _ ih=>exact ih
 | cmp1 _ ih=>exact ih
 | @cmp2 w1 w2 sg x y X hs Y ihX ihY =>
  obtain ⟨q,tz,rfl,e⟩:=ihY
  exact ⟨w1++sg::q,tz,by simp,e⟩
 | sum _ _ ih ih2=>exact zya ih ih2
 | term _ _ ih ih2=>exact zya ih ih2
 | chN=>exact .inl ⟨rfl,rfl⟩
 | @chC p g a sg w1 w2 y t hs Y C ihY ihC =>
  refine .inr ?_
  have h1:∃q tz,w1=q ++ [tz]/\y.to=tz.to:=by cases p <;> exact ihY
  obtain ⟨q,tz,e1,e2⟩:=zy9 (show (T.binary a.fr y.to sg.sort a y).to=y.to from rfl) h1 ihC
  exact ⟨sg::q,tz,by rw [e1]; rfl,e2⟩
 | call _ _ ih ih2=>exact zya ih ih2
 | caN=>exact .inl ⟨rfl,rfl⟩
 | @caC a w1 w2 y t Y C ihY ihC=>exact .inr (zy9 (show (T.call a.fr y.to a y).to=y.to from rfl) ihY ihC)
 | leaf _ _ h=>exact ⟨[],_,rfl,(ztr h).2.1⟩
 | @bracket ta tc ws x=>exact ⟨ta::ws,tc,rfl,rfl⟩
 | @pair ta tm tc w1 w2 x y=>exact ⟨ta::(w1++tm::w2),tc,by simp,rfl⟩
def plK:GK->List Tok->T->Prop
 | .chF _ _ a,ws,t=>∀f∈t.places,f∈a.places\/∃tk∈ws,tk.fr=f/\tk.sort=1
 | .caF a,ws,t=>∀f∈t.places,f∈a.places\/∃tk∈ws,tk.fr=f/\tk.sort=1
 | _,ws,t=>∀f∈t.places,∃tk∈ws,tk.fr=f/\tk.sort=1
theorem zdj {w ws:List Tok} (hw:∀x∈w,x∈ws) {f:Nat} (h:∃tk∈w,tk.fr=f/\tk.sort=1):∃tk∈ws,tk.fr=f/\tk.sort=1:=by
 obtain ⟨tk,h1,h2⟩:=h
 exact ⟨tk,hw _ h1,h2⟩
theorem G.places {l:List UInt8} {k:GK} {ws:List Tok} {t:T} (h:G l k ws t):plK k ws t:=by
 induction h with
 | @lett tl tn te ti rcs ds bs rc d b hl hrc hn he hi hp D B ihD ihB =>
  intro f hf
  simp only [T.places,zmC,zmA] at hf
  rcases hf with rfl | hf | hf
  ·exact ⟨tn,by simp,rfl,hn⟩
  ·exact zdj (fun x hx=>by simp [hx]) (ihD f hf)
  ·exact zdj (fun x hx=>by simp [hx]) (ihB f hf)
 | @fn tl tn ta bs b hl hn ha hp B ihB =>
  intro f hf
  simp only [T.places,zmC] at hf
  rcases hf with rfl | hf
  ·exact ⟨tn,by simp,rfl,hn⟩
  ·exact zdj (fun x hx=>by simp [hx]) (ihB f hf)
 | @cond tl t1 t2 cs xs ys c x y hl h1 h2 C X Y ihC ihX ihY =>
  intro f hf
  simp only [T.places,zmA] at hf
  rcases hf with hf | hf | hf
  ·exact zdj (fun x hx=>by simp [hx]) (ihC f hf)
  ·exact zdj (fun x hx=>by simp [hx]) (ihX f hf)
  ·exact zdj (fun x hx=>by simp [hx]) (ihY f hf)
 | ecmp _ ih=>exact ih
 | cmp1 _ ih=>exact ih
 | @cmp2 w1 w2 sg x y X hs Y ihX ihY =>
  intro f hf
  simp only [T.places,zmA] at hf
  rcases hf with hf | hf
  ·exact zdj (fun x hx=>by simp [hx]) (ihX f hf)
  ·exact zdj (fun x hx=>by simp [hx]) (ihY f hf)
 | sum _ _ ih ih2 =>
  intro f hf
  rcases ih2 f hf with h | h
  ·exact zdj (fun x hx=>by simp [hx]) (ih f h)
  ·exact zdj (fun x hx=>by simp [hx]) h
 | term _ _ ih ih2 =>
  intro f hf
  rcases ih2 f hf with h | h
  ·exact zdj (fun x hx=>by simp [hx]) (ih f h)
  ·exact zdj (fun x hx=>by simp [hx]) h
 | chN=>intro f hf; exact .inl hf
 | @chC p g a sg w1 w2 y t hs Y C ihY ihC =>
  intro f hf
  have h1:∀f∈y.places,∃tk∈w1,tk.fr=f/\tk.sort=1:=by cases p <;> exact ihY
  rcases ihC f hf with h | h
  ·simp only [T.places,zmA] at h
   rcases h with h | h
   ·exact .inl h
   ·exact .inr (zdj (fun x hx=>by simp [hx]) (h1 f h))
  ·exact .inr (zdj (fun x hx=>by simp [hx]) h)
 | call _ _ ih ih2 =>
  intro f hf
  rcases ih2 f hf with h | h
  ·exact zdj (fun x hx=>by simp [hx]) (ih f h)
  ·exact zdj (fun x hx=>by simp [hx]) h
 | caN=>intro f hf; exact .inl hf
 | @caC a w1 w2 y t Y C ihY ihC =>
  intro f hf
  rcases ihC f hf with h | h
  ·simp only [T.places,zmA] at h
   rcases h with h | h
   ·exact .inl h
   ·exact .inr (zdj (fun x hx=>by simp [hx]) (ihY f h))
  ·exact .inr (zdj (fun x hx=>by simp [hx]) h)
 | @leaf tk x hb h16 h =>
  intro f hf
  obtain ⟨e,q⟩:=(ztr h).2.2 f hf
  exact ⟨tk,by simp,e.symm,q hb h16⟩
 | @bracket ta tc ws x ha hc X ih =>
  intro f hf
  exact zdj (fun x hx=>by simp [hx]) (ih f hf)
 | @pair ta tm tc w1 w2 x y ha hm hc X Y ihX ihY =>
  intro f hf
  simp only [T.places,zmA] at hf
  rcases hf with hf | hf
  ·exact zdj (fun x hx=>by simp [hx]) (ihX f hf)
  ·exact zdj (fun x hx=>by simp [hx]) (ihY f hf)
def isAt:T->Bool
 | .name .. | .int .. | .truth .. | .side .. | .bracket .. | .pair .. => true
 | _=>false
def atK (l:List UInt8):GK->List Tok->T->Prop
 | .chF _ _ a,ws,t=>isAt t=true->ws=[]/\t=a
 | .caF a,ws,t=>isAt t=true->ws=[]/\t=a
 | _,ws,t=>isAt t=true->G l .atom ws t
theorem G.atoms {l:List UInt8} {k:GK} {ws:List Tok} {t:T} (h:G l k ws t):atK l k ws t:=by
 induction h with
 | lett=>intro e; cases e
 | fn=>intro e; cases e
 | cond=>intro e; cases e
 | ecmp _ ih=>exact ih
 | cmp1 _ ih=>exact ih
 | cmp2=>intro e; cases e
 | sum _ _ ih ih2=>intro e; obtain ⟨rfl,rfl⟩:=ih2 e; rw [List.append_nil]; exact ih e
 | term _ _ ih ih2=>intro e; obtain ⟨rfl,rfl⟩:=ih2 e; rw [List.append_nil]; exact ih e
 | chN=>intro _; exact ⟨rfl,rfl⟩
 | chC _ _ _ _ ih2=>intro e; obtain ⟨_,rfl⟩:=ih2 e; cases e
 | call _ _ ih ih2=>intro e; obtain ⟨rfl,rfl⟩:=ih2 e; rw [List.append_nil]; exact ih e
 | caN=>intro _; exact ⟨rfl,rfl⟩
 | caC _ _ _ ih2=>intro e; obtain ⟨_,rfl⟩:=ih2 e; cases e
 | leaf hb h16 h=>intro _; exact .leaf hb h16 h
 | bracket ha hc X=>intro _; exact .bracket ha hc X
 | pair ha hm hc X Y=>intro _; exact .pair ha hm hc X Y
end Inl
namespace Inl
open Go
def zjp (l:List UInt8) (d:T) (f:Nat):Bool :=
 match d with
 | .fn .. => true
 | .int .. => zas (zam (l.drop (f-1)))
 | _=>false
def zch (l:List UInt8) (d:T) (f:Nat):List UInt8:=if zjp l d f then 40::(zaw l d.fr d.to ++ [41]) else zaw l d.fr d.to
def zn0 (l:List UInt8) (d:T) (ds:List Tok) (f:Nat):List (Int×List UInt8):=if zjp l d f then (16,[40])::(ds.map (wdOf l) ++ [(17,[41])]) else ds.map (wdOf l)
theorem yex {X:List UInt8} {ws:List (Int×List UInt8)} (h:LexW X ws):LexW (40::X) ((16,[40])::ws):=by
 have e:zah (40::X)=(16,1):=by
  unfold zah
  rw [show zam (40::X)=40 from rfl,if_neg (by decide),if_neg (by decide),if_neg (by simp)]
  rfl
 have:=LexW.tok (m:=40::X) (ws:=ws) (by simp) (zkk (by simp [zam]) (by simp [zam]) (by simp [zam]) (by simp [zam])) (by rw [e]; decide) (by rw [e]; exact h)
 rw [e] at this
 exact this
theorem yey {X:List UInt8} {ws:List (Int×List UInt8)} (h:LexW X ws):LexW (41::X) ((17,[41])::ws):=by
 have e:zah (41::X)=(17,1):=by
  unfold zah
  rw [show zam (41::X)=41 from rfl,if_neg (by decide),if_neg (by decide),if_neg (by simp)]
  rfl
 have:=LexW.tok (m:=41::X) (ws:=ws) (by simp) (zkk (by simp [zam]) (by simp [zam]) (by simp [zam]) (by simp [zam])) (by rw [e]; decide) (by rw [e]; exact h)
 rw [e] at this
 exact this
theorem ydl {off:Nat} {m:List UInt8} {t0:Tok} {rest:List Tok} (h:Lex off m (t0::rest)) (ho:t0.fr=off) (hd:zas (zam m)=true):t0.sort=2:=by
 cases h with
 | gap hm hg hr =>
  have hle:=zex m (List.length_pos_iff.2 hm)
  have:=((hr.toks).1 t0 (by simp)).low
  omega
 | tok hm hg h0 hr =>
  have hns:zbh (zam m)≠true:=by simp [zbh,zas] at hd ⊢; omega
  simp only
  unfold zah at h0 ⊢
  rw [if_neg hns,if_pos hd] at h0 ⊢
  unfold zdm at h0 ⊢
  split at h0
  ·exact absurd rfl h0
  ·rename_i hl; rw [if_neg hl]
theorem yfr {l:List UInt8} {d:T} {ds post:List Tok} (hv:isAt d=true\/∃a b c e g,d = .fn a b c e g) (hD:G l .expr ds d) (hx:Lex d.fr (l.drop d.fr) (ds++post)) (f:Nat):yfg l (zch l d f) (zn0 l d ds f) f:=by
 obtain ⟨q,tz,rfl,hto⟩:=G.ends hD
 have mid:∀ {r':List UInt8} {wr:List (Int×List UInt8)},LexW r' wr->zbg (zam r')=false->LexW (zaw l d.fr d.to++r') ((q ++ [tz]).map (wdOf l)++wr):=fun h hw=>by
  have:=yew (l:=l) h hw hx rfl (ds:=q) (post:=post) (tz:=tz) (by simp)
  rw [hto]
  exact this
 obtain ⟨tk,r,e1,e2⟩:=G.begins hD
 have hx':=hx
 rw [e1,List.cons_append] at hx'
 have htk:=(hx'.toks).1 tk (by simp)
 have hz:=(hx.toks).1 tz (by simp)
 have hlt:d.fr<d.to:=by rw [hto]; have:=hz.low; have:=hz.lt; omega
 have hne:l.drop d.fr ≠ []:=by
  intro e
  rw [e] at hx'
  have k:=((hx'.toks).1 tk (by simp)).high
  have k2:=((hx'.toks).1 tk (by simp)).lt
  have k3:=((hx'.toks).1 tk (by simp)).low
  simp at k
  omega
 have hhead:zam (zaw l d.fr d.to)=zam (l.drop d.fr):=by
  have:=zlf (m:=l.drop d.fr) (j:=d.to-d.fr) (by omega) hne []
  rw [List.append_nil] at this
  exact this
 unfold zch zn0
 cases hb:zjp l d f with
 | true =>
  refine ⟨fun {r' wr} h hw => ?_,by simp,by simp [zam],fun h=>by simp [zam,zas] at h⟩
  simp only [if_true,List.cons_append,List.append_assoc,List.nil_append]
  exact yex (by have:=mid (yey h) (by simp [zam,zbg]); simpa using this)
 | false =>
  refine ⟨fun {r' wr} h hw=>mid h hw,?_,?_,?_⟩
  ·simp only [Bool.false_eq_true,if_false]
   intro e
   rw [e] at hhead
   cases hq:l.drop d.fr with
   | nil=>exact hne hq
   | cons c m =>
    rw [hq] at hhead
    simp [zam] at hhead
  ·simp only [Bool.false_eq_true,if_false]
   rw [hhead]
   exact (Lex.words hx' rfl).no62
  ·simp only [Bool.false_eq_true,if_false]
   intro hd _
   rw [hhead] at hd
   have hs:=ydl hx' e2.symm hd
   rcases hv with hv | ⟨a,b,c,e,g,rfl⟩
   ·have hA:=G.atoms hD hv
    rw [e1] at hA
    have hint:∃a b c,d = .int a b c:=by
     cases hA with
     | leaf hb' h16 h =>
      unfold zeq at h
      rw [if_pos hs] at h
      split at h
      ·obtain ⟨v,_,h⟩:=zbE.1 h
       cases h
       exact ⟨_,_,_,rfl⟩
      ·cases h
     | bracket ha _ _=>omega
     | pair ha _ _ _ _=>omega
    obtain ⟨a,b,c,rfl⟩:=hint
    exact hb
   ·simp [zjp] at hb
theorem znl {l l':List UInt8} {S:Nat->Prop} {d:T}:∀ {ws ws':List Tok},(∀t∈ws',t.fr<=t.to/\t.to<=l'.length)->ws'.map (wdOf l')=ws.map (wdOf l)->(∀t∈ws,t.sort=1->¬S t.fr)->Cp l l' S d ws ws'
 | [],ws',_,h,_=>by
  have:ws'=[]:=by simpa using h
  subst this
  exact .nil
 | a::ws,[],_,h,_=>by simp at h
 | a::ws,b::ws',hf,h,hS=>by
  simp only [List.map_cons,List.cons.injEq,wdOf,zpI] at h
  exact .keep ⟨h.1.1,fun _=>hf b (by simp),h.1.2⟩ (hS a (by simp)) (znl (fun t ht=>hf t (by simp [ht])) h.2 (fun t ht=>hS t (by simp [ht])))
theorem yfc {l l':List UInt8} {S0:List Nat} {d:T} {bw:Nat->List (Int×List UInt8)} (hblk:∀f∈S0,∀blk:List Tok,(∀t∈blk,t.fr<=t.to/\t.to<=l'.length)->blk.map (wdOf l')=bw f->∀F,Bd F d->∃d',G l' .atom blk d'/\(Sb F d d'\/∃f t d2,d' = .bracket f t d2/\Sb F d d2)) :
  ∀ {ws ws':List Tok},(∀t∈ws',t.fr<=t.to/\t.to<=l'.length)->ws'.map (wdOf l')=ws.flatMap (fun t=>if t.fr∈S0 then bw t.fr else [wdOf l t])->(∀t∈ws,t.fr∈S0->t.sort=1)->Cp l l' (· ∈ S0) d ws ws'
 | [],ws',_,h,_=>by
  have:ws'=[]:=by simpa using h
  subst this
  exact .nil
 | a::ws,ws',hf,h,hS=>by
  rw [List.flatMap_cons] at h
  obtain ⟨x,y,rfl,h1,h2⟩:=List.map_eq_append_iff.1 h
  have k:=yfc hblk (ws:=ws) (fun t ht=>hf t (by simp [ht])) h2 (fun t ht=>hS t (by simp [ht]))
  by_cases ha:a.fr∈S0
  ·rw [if_pos ha] at h1
   exact .use (hS a (by simp) ha) ha (hblk a.fr ha x (fun t ht=>hf t (by simp [ht])) h1) k
  ·rw [if_neg ha] at h1
   obtain ⟨b,rfl,hb⟩:∃b,x=[b]/\wdOf l' b=wdOf l a:=by
    cases x with
    | nil=>simp at h1
    | cons b x =>
     simp only [List.map_cons,List.cons.injEq,List.map_eq_nil_iff] at h1
     exact ⟨b,by rw [h1.2],h1.1⟩
   simp only [wdOf,zpI] at hb
   exact .keep ⟨hb.1,fun _=>hf b (by simp),hb.2⟩ (fun _=>ha) k
theorem ydm {l l':List UInt8} {d:T} {ds:List Tok} (hv:isAt d=true\/∃a b c e g,d = .fn a b c e g) (hD:G l .expr ds d) (f:Nat) (blk:List Tok) (hf:∀t∈blk,t.fr<=t.to/\t.to<=l'.length) (hw:blk.map (wdOf l')=zn0 l d ds f) (F:IE) (hB:Bd F d):∃d',G l' .atom blk d'/\(Sb F d d'\/∃f t d2,d' = .bracket f t d2/\Sb F d d2):=by
 unfold zn0 at hw
 cases hb:zjp l d f with
 | true =>
  rw [hb,if_pos rfl] at hw
  obtain ⟨ta,y,rfl,h1,h2⟩:=List.map_eq_cons_iff.1 hw
  obtain ⟨ds',z,rfl,h3,h4⟩:=List.map_eq_append_iff.1 h2
  obtain ⟨tc,z2,rfl,h5,h6⟩:=List.map_eq_cons_iff.1 h4
  have:z2=[]:=by simpa using h6
  subst this
  obtain ⟨d',g,s⟩:=zbb (l':=l') (ws':=ds') hD (znl (fun t ht=>hf t (by simp [ht])) h3 (fun _ _ _ h=>h)) .expr hB
  simp only [wdOf,zpI] at h1 h5
  exact ⟨_,.bracket h1.1 h5.1 g,.inr ⟨_,_,_,rfl,s⟩⟩
 | false =>
  rw [hb] at hw
  simp only [Bool.false_eq_true,if_false] at hw
  rcases hv with hv | ⟨a,b,c,e,g,rfl⟩
  ·obtain ⟨d',g,s⟩:=zbb (l':=l') (ws':=blk) (G.atoms hD hv) (znl hf hw (fun _ _ _ h=>h)) .atom hB
   exact ⟨d',g,.inl s⟩
  ·simp [zjp] at hb
theorem Vd.shape {E:IE} {d:T} (h:Vd E d):isAt d=true\/∃a b c e g,d = .fn a b c e g:=by
 cases d <;> first | exact .inl rfl | exact .inr ⟨_,_,_,_,_,rfl⟩ | exact h.elim
theorem zop {off:Nat} {m:List UInt8} {ts:List Tok} (h:Lex off m ts) {a b:Tok} (ha:a∈ts) (hb:b∈ts) (e:a.fr=b.fr):a=b:=by
 induction h with
 | nil=>cases ha
 | gap _ _ _ ih=>exact ih ha hb
 | @tok off m ts hm hg h0 hr ih =>
  have hle:=zde m (List.length_pos_iff.2 hm)
  rcases zmC.1 ha with rfl | ha'
  ·rcases zmC.1 hb with rfl | hb'
   ·rfl
   ·have:=((hr.toks).1 b hb').low
    simp only at e
    omega
  ·rcases zmC.1 hb with rfl | hb'
   ·have:=((hr.toks).1 a ha').low
    simp only at e
    omega
   ·exact ih ha' hb'
theorem zq8 {l:List UInt8} {S0:List Nat} {bw:Nat->List (Int×List UInt8)}:∀ {post:List Tok},(∀u∈post,u.fr∉S0)->post.flatMap (fun t=>if t.fr∈S0 then bw t.fr else [wdOf l t])=post.map (wdOf l)
 | [],_=>rfl
 | u::post,h=>by
  rw [List.flatMap_cons,if_neg (h u (by simp)),zq8 (fun v hv=>h v (by simp [hv]))]
  rfl
theorem ydn {l l':List UInt8} {body body':List Tok} {t n d b:T} {f0 t0 k0:Nat} {x:List UInt8} {E':IE} {S:List Nat} (hL:Lex 0 l body) (hG:G l .expr body t) (hn:n = .lett f0 t0 false x k0 d b) (hP:Pa [] t n E') (hB:Bd [] t) (hV:Vd E' d) (hO:Okk (· ∈ S) d (.left x d::E') b) (hS:Reps x.length body S) (hSb:∀f∈S,f∈b.places)
  (hl':l'=chgR 0 l ((n.fr,b.fr,[])::chB x.length (zch l d) S)) (hL':Lex 0 l' body'):∃t',G l' .expr body' t'/\Sb [] t t':=by
 have hcl:Cl l n d b E' [] .expr body t:=by
  rcases ydk hG ⟨f0,t0,x,k0,hn⟩ hP hB with ⟨a,e,_⟩ | h
  ·cases e
  ·exact h
 obtain ⟨pre,hd,ds,bs,post,hbody,⟨⟨tl,tn,te,ti,rfl,s1,s2,s3,s4,hn2⟩,hD,hBs⟩,⟨hlast,_⟩,hclose⟩:=hcl
 have hv:=hV.shape
 -- the places
 have hnf:n.fr=tl.fr:=by rw [hn2]; rfl
 obtain ⟨tb,rb,eb1,eb2⟩:=G.begins hBs
 obtain ⟨td,rd,ed1,ed2⟩:=G.begins hD
 have hxd:Lex d.fr (l.drop d.fr) (ds++ti::(bs++post)):=by
  rw [ed2,ed1,List.cons_append]
  exact zvq hL (by simp) (pre:=pre ++ [tl,tn,te]) (by rw [hbody,ed1]; simp)
 have hxb:Lex b.fr (l.drop b.fr) (bs++post):=by
  rw [eb2,eb1,List.cons_append]
  exact zvq hL (by simp) (pre:=pre++(tl::tn::te::(ds ++ [ti]))) (by rw [hbody,eb1]; simp)
 have hsub:∀u∈bs++post,u∈body:=fun u hu=>by
  rw [hbody]
  simp only [zmA,zmC] at hu ⊢
  exact .inr (.inr hu)
 have hin:∀f∈S,∃u∈bs,u.fr=f/\u.sort=1/\u.to=f+x.length:=fun f hf=>by
  obtain ⟨u,hu,hu1,hu2⟩:=G.places hBs f (hSb f hf)
  obtain ⟨v,hv1,hv2,hv3,hv4⟩:=hS.2 f hf
  have:=zop hL (hsub u (by simp [hu])) hv1 (hu1.trans hv2.symm)
  subst this
  exact ⟨u,hu,hu1,hu2,hv4⟩
 have hR:Reps x.length (bs++post) S:=⟨hS.1,fun f hf=>by
  obtain ⟨u,hu,h1,h2,h3⟩:=hin f hf
  exact ⟨u,by simp [hu],h1,h2,h3⟩⟩
 -- the tokens of the altered text
 have hRw:=ydj (l:=l) (blk:=zch l d) (bw:=zn0 l d ds) (S0:=S) hxb rfl hR (fun _ _=>Iff.rfl) (fun f _=>yfr hv hD hxd f)
 have hA:=ybr (l:=l) hRw hRw.no62 hL (by simp) (pre:=pre) (rest:=tn::te::(ds ++ [ti])++(bs++post)) (t0:=tl) (by rw [hbody]; simp) s1 hlast
 have hl2:l'=l.take (tl.fr-0)++chgR b.fr (l.drop b.fr) (chB x.length (zch l d) S):=by
  rw [hl',chgR,hnf]
  simp
 rw [<-hl2] at hA
 obtain ⟨ts,ht1,ht2⟩:=hA.lex (l:=l') (off:=0) (by simp)
 have:=hL'.unique ht1
 subst this
 have hfit:∀u∈body',u.fr<=u.to/\u.to<=l'.length:=fun u hu=>by
  have q:=(hL'.toks).1 u hu
  have:=q.lt
  have:=q.high
  omega
 rw [List.flatMap_append] at ht2
 obtain ⟨pre',y,rfl,p1,p2⟩:=List.map_eq_append_iff.1 ht2
 obtain ⟨bs',post',rfl,p3,p4⟩:=List.map_eq_append_iff.1 p2
 have hpost:∀u∈post,u.fr∉S:=fun u hu hq=>by
  obtain ⟨v,hv1,hv2,_⟩:=hin _ hq
  have e:=zop hL (hsub u (by simp [hu])) (hsub v (by simp [hv1])) hv2.symm
  subst e
  -- a token stands in one place alone
  have ap:=zlg hL
  rw [hbody] at ap
  have ap2:=((List.pairwise_append.1 ((List.pairwise_append.1 ap).2.1)).2.1)
  have ap3:=(List.pairwise_append.1 ap2).2.2 u hv1 u hu
  have:=((hL.toks).1 u (hsub u (by simp [hu]))).lt
  omega
 have p4':post'.map (wdOf l')=post.map (wdOf l):=by
  rw [p4]
  exact zq8 hpost
 have c1:znz l l' pre pre':=znl (fun u hu=>hfit u (by simp [hu])) p1 (fun _ _ _ h=>h)
 have c3:znz l l' post post':=znl (fun u hu=>hfit u (by simp [hu])) p4' (fun _ _ _ h=>h)
 have c2:Cp l l' (· ∈ S) d bs bs':=yfc (fun f _ blk hf hw F hB=>ydm hv hD f blk hf hw F hB) (fun u hu=>hfit u (by simp [hu])) p3 (fun u hu hq=>by
  obtain ⟨v,hv1,hv2,hv3,_⟩:=hin _ hq
  have e:=zop hL (hsub u (by simp [hu])) (hsub v (by simp [hv1])) hv2.symm
  subst e
  exact hv3)
 obtain ⟨b',g,s⟩:=zvs hBs c2 .expr hO
 exact hclose c1 c3 g .expr (by rw [hn]; exact .inl hV s)
end Inl
namespace Inl
open Go
def allB (E:IE):Prop:=∀e∈E,∃n s,e = .both n s
def nmE (E:IE):List (List UInt8):=E.map fun | .both n _=>n | .left x _=>x | .right n=>n
theorem allB.cons {E:IE} (h:allB E) (n:List UInt8) (s:Bool):allB (.both n s::E):=fun e he=>by
 rcases zmC.1 he with rfl | he
 ·exact ⟨n,s,rfl⟩
 ·exact h e he
theorem znm {x:List UInt8} {O:IE}:∀ {I:IE},allB I->x∈nmE I->∃s,hitB (I++O) x s
 | [],_,h=>by cases h
 | e::I,hI,h=>by
  obtain ⟨n,s,rfl⟩:=hI e (by simp)
  by_cases hn:n=x
  ·exact ⟨s,.inl ⟨hn,rfl⟩⟩
  ·have:x∈nmE I:=by
    simp only [nmE,List.map_cons,zmC] at h
    exact h.resolve_left fun q=>hn q.symm
   obtain ⟨s',h'⟩:=znm (O:=O) (I:=I) (fun e he=>hI e (by simp [he])) this
   exact ⟨s',.inr ⟨hn,h'⟩⟩
theorem zi0 {x:List UInt8} {s:Bool} {O:IE}:∀ {I:IE},allB I->x∉nmE I->(hitB (I++O) x s↔hitB O x s)
 | [],_,_=>Iff.rfl
 | e::I,hI,h=>by
  obtain ⟨n,s',rfl⟩:=hI e (by simp)
  simp only [nmE,List.map_cons,zmC,not_or] at h
  have hn:n≠x:=fun q=>h.1 q.symm
  simp only [List.cons_append,hitB]
  rw [zi0 (I:=I) (fun e he=>hI e (by simp [he])) h.2]
  exact ⟨fun q=>q.elim (fun q=>absurd q.1 hn) (·.2),fun q=>.inr ⟨hn,q⟩⟩
theorem zb0:∀ {t:T} {E:IE},allB E->t.freeS (nmE E)=none->Bd E t
 | .name _ _ x,E,hE,h=>by
  simp only [T.freeS] at h
  split at h
  ·rename_i hc
   have:=znm (O:=[]) hE (by simpa using hc)
   rw [List.append_nil] at this
   exact this
  ·cases h
 | .int ..,_,_,_=>trivial
 | .truth ..,_,_,_=>trivial
 | .side ..,_,_,_=>trivial
 | .bracket _ _ i,E,hE,h=>zb0 (t:=i) (E:=E) hE h
 | .pair ..,E,hE,h=>by
  simp only [T.freeS,Option.or_eq_none_iff] at h
  exact ⟨zb0 hE h.1,zb0 hE h.2⟩
 | .call ..,E,hE,h=>by
  simp only [T.freeS,Option.or_eq_none_iff] at h
  exact ⟨zb0 hE h.1,zb0 hE h.2⟩
 | .binary ..,E,hE,h=>by
  simp only [T.freeS,Option.or_eq_none_iff] at h
  exact ⟨zb0 hE h.1,zb0 hE h.2⟩
 | .cond ..,E,hE,h=>by
  simp only [T.freeS,Option.or_eq_none_iff] at h
  exact ⟨zb0 hE h.1.1,zb0 hE h.1.2,zb0 hE h.2⟩
 | .fn _ _ n _ a,E,hE,h=>zb0 (t:=a) (E:=.both n true::E) (hE.cons n true) h
 | .lett _ _ r n _ a b,E,hE,h=>by
  simp only [T.freeS,Option.or_eq_none_iff] at h
  refine ⟨?_,zb0 (E:=.both n true::E) (hE.cons n true) h.2⟩
  cases r with
  | true=>exact zb0 (E:=.both n false::E) (hE.cons n false) h.1
  | false=>exact zb0 (E:=E) hE h.1
theorem Pa.allB {E F:IE} {t n:T} (h:Pa E t n F) (hE:allB E):allB F:=by
 induction h with
 | here=>exact hE
 | fn _ ih=>exact ih (hE.cons _ _)
 | @lettD E F f t k r m a b n _ ih=>cases r; exact ih hE; exact ih (hE.cons _ _)
 | lettB _ ih=>exact ih (hE.cons _ _)
 | bracket _ ih | pairL _ ih | pairR _ ih | callL _ ih | callR _ ih | binL _ ih | binR _ ih | cond1 _ ih | cond2 _ ih | cond3 _ ih=>exact ih hE
theorem Pa.bd {E F:IE} {t n:T} (h:Pa E t n F) (hB:Bd E t):Bd F n:=by
 induction h with
 | here=>exact hB
 | bracket _ ih=>exact ih hB
 | pairL _ ih=>exact ih hB.1
 | pairR _ ih=>exact ih hB.2
 | callL _ ih=>exact ih hB.1
 | callR _ ih=>exact ih hB.2
 | binL _ ih=>exact ih hB.1
 | binR _ ih=>exact ih hB.2
 | cond1 _ ih=>exact ih hB.1
 | cond2 _ ih=>exact ih hB.2.1
 | cond3 _ ih=>exact ih hB.2.2
 | fn _ ih=>exact ih hB
 | lettD _ ih=>exact ih hB.1
 | lettB _ ih=>exact ih hB.2
theorem zh3:∀ {t n:T} (E:IE),n∈t.binds->∃F,Pa E t n F
 | .bracket _ _ i,n,E,h=>by obtain ⟨F,p⟩:=zh3 (t:=i) E h; exact ⟨F,.bracket p⟩
 | .pair _ _ a b,n,E,h=>by
  rcases zmA.1 h with h | h
  ·obtain ⟨F,p⟩:=zh3 E h; exact ⟨F,.pairL p⟩
  ·obtain ⟨F,p⟩:=zh3 E h; exact ⟨F,.pairR p⟩
 | .call _ _ a b,n,E,h=>by
  rcases zmA.1 h with h | h
  ·obtain ⟨F,p⟩:=zh3 E h; exact ⟨F,.callL p⟩
  ·obtain ⟨F,p⟩:=zh3 E h; exact ⟨F,.callR p⟩
 | .binary _ _ _ a b,n,E,h=>by
  rcases zmA.1 h with h | h
  ·obtain ⟨F,p⟩:=zh3 E h; exact ⟨F,.binL p⟩
  ·obtain ⟨F,p⟩:=zh3 E h; exact ⟨F,.binR p⟩
 | .cond _ _ a b c,n,E,h=>by
  rcases zmA.1 h with h | h
  ·obtain ⟨F,p⟩:=zh3 E h; exact ⟨F,.cond1 p⟩
  ·rcases zmA.1 h with h | h
   ·obtain ⟨F,p⟩:=zh3 E h; exact ⟨F,.cond2 p⟩
   ·obtain ⟨F,p⟩:=zh3 E h; exact ⟨F,.cond3 p⟩
 | .fn _ _ m _ a,n,E,h=>by
  rcases zmC.1 h with rfl | h
  ·exact ⟨E,.here⟩
  ·obtain ⟨F,p⟩:=zh3 (.both m true::E) h; exact ⟨F,.fn p⟩
 | .lett _ _ r m _ a b,n,E,h=>by
  rcases zmC.1 h with rfl | h
  ·exact ⟨E,.here⟩
  ·rcases zmA.1 h with h | h
   ·obtain ⟨F,p⟩:=zh3 (if r then .both m false::E else E) h; exact ⟨F,.lettD p⟩
   ·obtain ⟨F,p⟩:=zh3 (.both m true::E) h; exact ⟨F,.lettB p⟩
 | .name ..,_,_,h=>by cases h
 | .int ..,_,_,h=>by cases h
 | .truth ..,_,_,h=>by cases h
 | .side ..,_,_,h=>by cases h
theorem zb3 {x m:List UInt8} (h:m≠x):∀(t:T) (I J:List (List UInt8)),t.occ x (I++m::J)=t.occ x (I++J)
 | .name f _ z,I,J=>by
  simp only [T.occ]
  have:(x∉I++m::J)↔(x∉I++J):=by
   simp only [zmA,zmC]
   have:x≠m:=fun e=>h e.symm
   simp [this]
  simp only [this]
 | .int ..,_,_=>rfl
 | .truth ..,_,_=>rfl
 | .side ..,_,_=>rfl
 | .bracket _ _ i,I,J=>zb3 h i I J
 | .pair _ _ a b,I,J=>by simp only [T.occ]; rw [zb3 h a,zb3 h b]
 | .call _ _ a b,I,J=>by simp only [T.occ]; rw [zb3 h a,zb3 h b]
 | .binary _ _ _ a b,I,J=>by simp only [T.occ]; rw [zb3 h a,zb3 h b]
 | .cond _ _ a b c,I,J=>by simp only [T.occ]; rw [zb3 h a,zb3 h b,zb3 h c]
 | .fn _ _ n _ a,I,J=>by
  simp only [T.occ]
  exact zb3 h a (n::I) J
 | .lett _ _ r n _ a b,I,J=>by
  simp only [T.occ]
  rw [show n::(I++m::J)=(n::I)++m::J from rfl,zb3 h b (n::I) J]
  cases r with
  | true=>simp only [if_true]; rw [zb3 h a (n::I) J]; rfl
  | false=>simp only [Bool.false_eq_true,if_false]; rw [zb3 h a I J]; rfl
theorem yf6 {E F:IE} {t n:T} (h:Pa E t n F) {z:List UInt8}:hitB F z false->(hitB E z false/\∀f∈n.occ z [],f∈t.occ z [])\/∃m∈t.binds,∃a1 a2 a3 md mb,m = .lett a1 a2 true z a3 md mb/\∀f∈n.occ z [],f∈md.occ z []:=by
 induction h with
 | here=>intro hz; exact .inl ⟨hz,fun f hf=>hf⟩
 | bracket _ ih=>intro hz; exact ih hz
 | pairL _ ih =>
  intro hz
  rcases ih hz with ⟨h1,h2⟩ | ⟨m,hm,r⟩
  ·exact .inl ⟨h1,fun f hf=>List.mem_append_left _ (h2 f hf)⟩
  ·exact .inr ⟨m,List.mem_append_left _ hm,r⟩
 | pairR _ ih =>
  intro hz
  rcases ih hz with ⟨h1,h2⟩ | ⟨m,hm,r⟩
  ·exact .inl ⟨h1,fun f hf=>List.mem_append_right _ (h2 f hf)⟩
  ·exact .inr ⟨m,List.mem_append_right _ hm,r⟩
 | callL _ ih =>
  intro hz
  rcases ih hz with ⟨h1,h2⟩ | ⟨m,hm,r⟩
  ·exact .inl ⟨h1,fun f hf=>List.mem_append_left _ (h2 f hf)⟩
  ·exact .inr ⟨m,List.mem_append_left _ hm,r⟩
 | callR _ ih =>
  intro hz
  rcases ih hz with ⟨h1,h2⟩ | ⟨m,hm,r⟩
  ·exact .inl ⟨h1,fun f hf=>List.mem_append_right _ (h2 f hf)⟩
  ·exact .inr ⟨m,List.mem_append_right _ hm,r⟩
 | binL _ ih =>
  intro hz
  rcases ih hz with ⟨h1,h2⟩ | ⟨m,hm,r⟩
  ·exact .inl ⟨h1,fun f hf=>List.mem_append_left _ (h2 f hf)⟩
  ·exact .inr ⟨m,List.mem_append_left _ hm,r⟩
 | binR _ ih =>
  intro hz
  rcases ih hz with ⟨h1,h2⟩ | ⟨m,hm,r⟩
  ·exact .inl ⟨h1,fun f hf=>List.mem_append_right _ (h2 f hf)⟩
  ·exact .inr ⟨m,List.mem_append_right _ hm,r⟩
 | cond1 _ ih =>
  intro hz
  rcases ih hz with ⟨h1,h2⟩ | ⟨m,hm,r⟩
  ·exact .inl ⟨h1,fun f hf=>List.mem_append_left _ (h2 f hf)⟩
  ·exact .inr ⟨m,List.mem_append_left _ hm,r⟩
 | cond2 _ ih =>
  intro hz
  rcases ih hz with ⟨h1,h2⟩ | ⟨m,hm,r⟩
  ·exact .inl ⟨h1,fun f hf=>List.mem_append_right _ (List.mem_append_left _ (h2 f hf))⟩
  ·exact .inr ⟨m,List.mem_append_right _ (List.mem_append_left _ hm),r⟩
 | cond3 _ ih =>
  intro hz
  rcases ih hz with ⟨h1,h2⟩ | ⟨m,hm,r⟩
  ·exact .inl ⟨h1,fun f hf=>List.mem_append_right _ (List.mem_append_right _ (h2 f hf))⟩
  ·exact .inr ⟨m,List.mem_append_right _ (List.mem_append_right _ hm),r⟩
 | @fn E F f t k m a n _ ih =>
  intro hz
  rcases ih hz with ⟨h1,h2⟩ | ⟨q,hq,r⟩
  ·rcases h1 with ⟨_,e⟩ | ⟨hm,h1⟩
   ·cases e
   ·refine .inl ⟨h1,fun f hf => ?_⟩
    simp only [T.occ]
    have:=zb3 hm a [] []
    simp only [List.nil_append] at this
    rw [this]
    exact h2 f hf
  ·exact .inr ⟨q,List.mem_cons_of_mem _ hq,r⟩
 | @lettD E F f t k r m a b n _ ih =>
  intro hz
  rcases ih hz with ⟨h1,h2⟩ | ⟨q,hq,r'⟩
  ·cases r with
   | true =>
    simp only [if_true,hitB] at h1
    rcases h1 with ⟨e,_⟩ | ⟨hm,h1⟩
    ·subst e
     exact .inr ⟨_,List.mem_cons_self,_,_,_,_,_,rfl,h2⟩
    ·refine .inl ⟨h1,fun f hf => ?_⟩
     simp only [T.occ,if_true]
     have:=zb3 hm a [] []
     simp only [List.nil_append] at this
     rw [this]
     exact List.mem_append_left _ (h2 f hf)
   | false=>exact .inl ⟨h1,fun f hf=>List.mem_append_left _ (h2 f hf)⟩
  ·exact .inr ⟨q,List.mem_cons_of_mem _ (List.mem_append_left _ hq),r'⟩
 | @lettB E F f t k r m a b n _ ih =>
  intro hz
  rcases ih hz with ⟨h1,h2⟩ | ⟨q,hq,r'⟩
  ·rcases h1 with ⟨_,e⟩ | ⟨hm,h1⟩
   ·cases e
   ·refine .inl ⟨h1,fun f hf => ?_⟩
    simp only [T.occ]
    have:=zb3 hm b [] []
    simp only [List.nil_append] at this
    rw [this]
    exact List.mem_append_right _ (h2 f hf)
  ·exact .inr ⟨q,List.mem_cons_of_mem _ (List.mem_append_right _ hq),r'⟩
def isV (own:Nat->Bool):T->Bool
 | .name f _ _ => !own f
 | .int .. => true
 | .truth .. => true
 | .side .. => true
 | .fn .. => true
 | .bracket _ _ i=>isV own i
 | .pair _ _ a b=>isV own a&&isV own b
 | _=>false
theorem zza {F:IE} {own:Nat->Bool}:∀ {d:T},isV own d=true->Bd F d->(∀z,hitB F z false->∀f∈d.occ z [],own f=true)->Vd F d
 | .name f _ x,hv,hb,ho=>by
  obtain ⟨s,hs⟩:=hb
  cases s with
  | true=>exact hs
  | false =>
   have:=ho x hs f (by simp [T.occ])
   simp only [isV] at hv
   rw [this] at hv
   cases hv
 | .int ..,_,_,_=>trivial
 | .truth ..,_,_,_=>trivial
 | .side ..,_,_,_=>trivial
 | .fn ..,_,_,_=>trivial
 | .bracket _ _ i,hv,hb,ho=>zza (d:=i) hv hb ho
 | .pair _ _ a b,hv,hb,ho=>by
  simp only [isV,Bool.and_eq_true] at hv
  exact ⟨zza hv.1 hb.1 (fun z hz f hf=>ho z hz f (List.mem_append_left _ hf)),zza hv.2 hb.2 (fun z hz f hf=>ho z hz f (List.mem_append_right _ hf))⟩
 | .call ..,hv,_,_=>by cases hv
 | .binary ..,hv,_,_=>by cases hv
 | .cond ..,hv,_,_=>by cases hv
 | .lett ..,hv,_,_=>by cases hv
def freeIn (z:List UInt8):T->List (List UInt8)->Prop
 | .name _ _ x,I=>x=z/\z∉I
 | .int ..,_ | .truth ..,_ | .side ..,_=>False
 | .bracket _ _ i,I=>freeIn z i I
 | .pair _ _ a b,I=>freeIn z a I\/freeIn z b I
 | .call _ _ a b,I=>freeIn z a I\/freeIn z b I
 | .binary _ _ _ a b,I=>freeIn z a I\/freeIn z b I
 | .cond _ _ a b c,I=>freeIn z a I\/(freeIn z b I\/freeIn z c I)
 | .fn _ _ n _ a,I=>freeIn z a (n::I)
 | .lett _ _ r n _ a b,I=>freeIn z a (if r then n::I else I)\/freeIn z b (n::I)
def captD (x:List UInt8) (d:T):T->List (List UInt8)->Prop
 | .name _ _ z,I=>z=x/\x∉I/\∃y,freeIn y d []/\y∈I
 | .int ..,_ | .truth ..,_ | .side ..,_=>False
 | .bracket _ _ i,I=>captD x d i I
 | .pair _ _ a b,I=>captD x d a I\/captD x d b I
 | .call _ _ a b,I=>captD x d a I\/captD x d b I
 | .binary _ _ _ a b,I=>captD x d a I\/captD x d b I
 | .cond _ _ a b c,I=>captD x d a I\/(captD x d b I\/captD x d c I)
 | .fn _ _ n _ a,I=>captD x d a (n::I)
 | .lett _ _ r n _ a b,I=>captD x d a (if r then n::I else I)\/captD x d b (n::I)
def zyv (I:IE):IE:=I.map fun | .both n _=>.right n | .left x _=>.right x | .right n=>.right n
theorem zpc {x:List UInt8} {s:Bool} {O:IE}:∀ {I:IE},x∉nmE I->hitB O x s->hitB (zyv I++O) x s
 | [],_,h=>h
 | e::I,hx,h=>by
  simp only [nmE,List.map_cons,zmC,not_or] at hx
  have:=zpc (I:=I) hx.2 h
  cases e with
  | both n s'=>exact ⟨fun q=>hx.1 q.symm,this⟩
  | left n s'=>exact ⟨fun q=>hx.1 q.symm,this⟩
  | right n=>exact ⟨fun q=>hx.1 q.symm,this⟩
theorem zyb (r:Bool) (n:List UInt8) (s:Bool) (J:IE):nmE (if r then .both n s::J else J)=if r then n::nmE J else nmE J:=by cases r <;> rfl
theorem zzb {J:IE} (h:allB J) (r:Bool) (n:List UInt8) (s:Bool):allB (if r then .both n s::J else J):=by
 cases r
 ·exact h
 ·exact h.cons n s
theorem zyc (r:Bool) (e:En1) (J O:IE):(if r then e::(J++O) else J++O)=(if r then e::J else J)++O:=by cases r <;> rfl
theorem zcr {F I:IE}:∀ {d:T} {J:IE},allB J->Bd (J++F) d->(∀z,freeIn z d (nmE J)->z∉nmE I)->Bd (J++(zyv I++F)) d
 | .name _ _ x,J,hJ,h,hf=>by
  by_cases hx:x∈nmE J
  ·exact znm hJ hx
  ·obtain ⟨s,hs⟩:=h
   refine ⟨s,(zi0 hJ hx).2 (zpc (hf x ⟨rfl,hx⟩) ((zi0 hJ hx).1 hs))⟩
 | .int ..,_,_,_,_=>trivial
 | .truth ..,_,_,_,_=>trivial
 | .side ..,_,_,_,_=>trivial
 | .bracket _ _ i,J,hJ,h,hf=>zcr (d:=i) hJ h hf
 | .pair ..,J,hJ,h,hf=>⟨zcr hJ h.1 fun z hz=>hf z (.inl hz),zcr hJ h.2 fun z hz=>hf z (.inr hz)⟩
 | .call ..,J,hJ,h,hf=>⟨zcr hJ h.1 fun z hz=>hf z (.inl hz),zcr hJ h.2 fun z hz=>hf z (.inr hz)⟩
 | .binary ..,J,hJ,h,hf=>⟨zcr hJ h.1 fun z hz=>hf z (.inl hz),zcr hJ h.2 fun z hz=>hf z (.inr hz)⟩
 | .cond ..,J,hJ,h,hf=>⟨zcr hJ h.1 fun z hz=>hf z (.inl hz),zcr hJ h.2.1 fun z hz=>hf z (.inr (.inl hz)),zcr hJ h.2.2 fun z hz=>hf z (.inr (.inr hz))⟩
 | .fn _ _ n _ a,J,hJ,h,hf=>zcr (d:=a) (J:=.both n true::J) (hJ.cons n true) h hf
 | .lett _ _ r n _ a b,J,hJ,h,hf=>by
  refine ⟨?_,zcr (d:=b) (J:=.both n true::J) (hJ.cons n true) h.2 fun z hz=>hf z (.inr hz)⟩
  have h1:=h.1
  rw [zyc] at h1 ⊢
  exact zcr (d:=a) (zzb hJ r n false) h1 fun z hz=>hf z (.inl (by rw [zyb] at hz; exact hz))
theorem zzc {x:List UInt8} {d:T} {F:IE}:∀ {I:IE},allB I->x∉nmE I->hitD (I ++ .left x d::F) x d (zyv I++F)
 | [],_,_=>.inl ⟨rfl,rfl,rfl⟩
 | e::I,hI,hx=>by
  obtain ⟨n,s,rfl⟩:=hI e (by simp)
  simp only [nmE,List.map_cons,zmC,not_or] at hx
  exact ⟨fun q=>hx.1 q.symm,_,zzc (fun e he=>hI e (by simp [he])) hx.2,rfl⟩
theorem zfq {x:List UInt8} {d:T} {F:IE} {S:List Nat} (hd:Bd F d):∀ {t:T} {I:IE},allB I->t.places.Nodup->Bd (I ++ .both x true::F) t->(∀f∈t.places,f∈S↔f∈t.occ x (nmE I))->¬captD x d t (nmE I)->Okk (· ∈ S) d (I ++ .left x d::F) t
 | .name f _ z,I,hI,_,hb,hS,hc=>by
  have hf:=hS f (by simp [T.places])
  simp only [T.occ] at hf
  simp only [captD] at hc
  by_cases hz:z∈nmE I
  ·refine .inr ⟨?_,znm hI hz⟩
   show ¬f∈S
   rw [hf,if_neg (fun h=>h.2 (h.1 ▸ hz))]
   simp
  ·by_cases hx:z=x
   ·subst hx
    refine .inl ⟨?_,_,zzc hI hz,?_⟩
    ·show f∈S
     rw [hf,if_pos ⟨rfl,hz⟩]
     simp
    ·exact zcr (J:=[]) (fun e he=>by cases he) hd (fun y hy hm=>hc ⟨rfl,hz,y,hy,hm⟩)
   ·refine .inr ⟨?_,?_⟩
    ·show ¬f∈S
     rw [hf,if_neg (fun h=>hx h.1)]
     simp
    ·obtain ⟨s,hs⟩:=hb
     rcases (zi0 hI hz).1 hs with ⟨e,_⟩ | ⟨_,h⟩
     ·exact absurd e.symm hx
     ·exact ⟨s,(zi0 hI hz).2 ⟨fun e=>hx e.symm,h⟩⟩
 | .int ..,_,_,_,_,_,_=>trivial
 | .truth ..,_,_,_,_,_,_=>trivial
 | .side ..,_,_,_,_,_,_=>trivial
 | .bracket _ _ i,I,hI,hn,hb,hS,hc=>zfq hd (t:=i) hI hn hb hS hc
 | .pair _ _ a b,I,hI,hn,hb,hS,hc=>by
  simp only [T.places,List.nodup_append,T.occ,captD,not_or] at hn hS hc
  refine ⟨zfq hd hI hn.1 hb.1 (fun f hf => ?_) hc.1,zfq hd hI hn.2.1 hb.2 (fun f hf => ?_) hc.2⟩
  ·rw [hS f (by simp [hf]),zmA]
   exact ⟨fun h=>h.elim id fun h=>absurd rfl (hn.2.2 f hf f (zat x b _ f h)),.inl⟩
  ·rw [hS f (by simp [hf]),zmA]
   exact ⟨fun h=>h.elim (fun h=>absurd rfl (hn.2.2 f (zat x a _ f h) f hf)) id,.inr⟩
 | .call _ _ a b,I,hI,hn,hb,hS,hc=>by
  simp only [T.places,List.nodup_append,T.occ,captD,not_or] at hn hS hc
  refine ⟨zfq hd hI hn.1 hb.1 (fun f hf => ?_) hc.1,zfq hd hI hn.2.1 hb.2 (fun f hf => ?_) hc.2⟩
  ·rw [hS f (by simp [hf]),zmA]
   exact ⟨fun h=>h.elim id fun h=>absurd rfl (hn.2.2 f hf f (zat x b _ f h)),.inl⟩
  ·rw [hS f (by simp [hf]),zmA]
   exact ⟨fun h=>h.elim (fun h=>absurd rfl (hn.2.2 f (zat x a _ f h) f hf)) id,.inr⟩
 | .binary _ _ _ a b,I,hI,hn,hb,hS,hc=>by
  simp only [T.places,List.nodup_append,T.occ,captD,not_or] at hn hS hc
  refine ⟨zfq hd hI hn.1 hb.1 (fun f hf => ?_) hc.1,zfq hd hI hn.2.1 hb.2 (fun f hf => ?_) hc.2⟩
  ·rw [hS f (by simp [hf]),zmA]
   exact ⟨fun h=>h.elim id fun h=>absurd rfl (hn.2.2 f hf f (zat x b _ f h)),.inl⟩
  ·rw [hS f (by simp [hf]),zmA]
   exact ⟨fun h=>h.elim (fun h=>absurd rfl (hn.2.2 f (zat x a _ f h) f hf)) id,.inr⟩
 | .cond _ _ a b c,I,hI,hn,hb,hS,hc=>by
  simp only [T.places,List.nodup_append,T.occ,captD,not_or,zmA] at hn hS hc
  refine ⟨zfq hd hI hn.1 hb.1 (fun f hf => ?_) hc.1,zfq hd hI hn.2.1.1 hb.2.1 (fun f hf => ?_) hc.2.1,zfq hd hI hn.2.1.2.1 hb.2.2 (fun f hf => ?_) hc.2.2⟩
  ·rw [hS f (by simp [hf])]
   exact ⟨fun h=>h.elim id fun h=>absurd rfl (hn.2.2 f hf f (h.imp (zat x b _ f) (zat x c _ f))),.inl⟩
  ·rw [hS f (by simp [hf])]
   exact ⟨fun h=>h.elim (fun h=>absurd rfl (hn.2.2 f (zat x a _ f h) f (.inl hf))) fun h=>h.elim id fun h=>absurd rfl (hn.2.1.2.2 f hf f (zat x c _ f h)),fun h=>.inr (.inl h)⟩
  ·rw [hS f (by simp [hf])]
   exact ⟨fun h=>h.elim (fun h=>absurd rfl (hn.2.2 f (zat x a _ f h) f (.inr hf))) fun h=>h.elim (fun h=>absurd rfl (hn.2.1.2.2 f (zat x b _ f h) f hf)) id,fun h=>.inr (.inr h)⟩
 | .fn _ _ n k a,I,hI,hn,hb,hS,hc=>by
  simp only [T.places,List.nodup_cons,T.occ,captD,zmC] at hn hS hc
  have hk:k∉S:=by rw [hS k (.inl rfl)]; exact fun h=>hn.1 (zat x a _ k h)
  exact ⟨hk,zfq hd (t:=a) (I:=.both n true::I) (hI.cons n true) hn.2 hb (fun f hf=>hS f (.inr hf)) hc⟩
 | .lett _ _ r n k a b,I,hI,hn,hb,hS,hc=>by
  simp only [T.places,List.nodup_cons,List.nodup_append,T.occ,captD,zmC,zmA,not_or] at hn hS hc
  have hk:k∉S:=by
   rw [hS k (.inl rfl)]
   exact fun h=>h.elim (fun h=>hn.1.1 (zat x a _ k h)) fun h=>hn.1.2 (zat x b _ k h)
  have hb1:=hb.1
  rw [zyc] at hb1
  refine ⟨hk,?_,zfq hd (t:=b) (I:=.both n true::I) (hI.cons n true) hn.2.2.1 hb.2 (fun f hf => ?_) hc.2⟩
  ·rw [zyc]
   refine zfq hd (t:=a) (zzb hI r n false) hn.2.1 hb1 (fun f hf => ?_) (by rw [zyb]; exact hc.1)
   rw [hS f (.inr (.inl hf)),zyb]
   exact ⟨fun h=>h.elim id fun h=>absurd rfl (hn.2.2.2 f hf f (zat x b _ f h)),.inl⟩
  ·rw [hS f (.inr (.inr hf))]
   exact ⟨fun h=>h.elim (fun h=>absurd rfl (hn.2.2.2 f (zat x a _ f h) f hf)) id,.inr⟩
end Inl
namespace Inl
open Go
theorem zt5 {l:List UInt8} {ws:List Tok} {t:T} (h:G l .expr ws t) (hp:ws.Pairwise (fun a b=>a.to<=b.fr)) (hlt:∀a∈ws,a.fr<a.to):∀f∈t.places,t.fr<=f/\f<t.to:=by
 intro f hf
 obtain ⟨tk,htk,rfl,_⟩:=G.places h f hf
 obtain ⟨ta,r,e1,e2⟩:=G.begins h
 obtain ⟨q,tz,e3,e4⟩:=G.ends h
 constructor
 ·rw [e2]
  have hp1:=hp
  rw [e1] at hp1 htk
  rcases zmC.1 htk with rfl | hm
  ·exact znL _
  ·have:=(List.pairwise_cons.1 hp1).1 tk hm
   have:=hlt ta (by rw [e1]; simp)
   omega
 ·rw [e4]
  have hl:=hlt tk htk
  rw [e3] at hp htk
  rcases zmA.1 htk with hm | hm
  ·have:=(List.pairwise_append.1 hp).2.2 tk hm tz (by simp)
   have:=hlt tz (by rw [e3]; simp)
   omega
  ·rw [List.mem_singleton] at hm
   rw [<-hm]
   exact hl
def Df (N f0:Nat) (d b:T):Prop:=(∀f∈d.places,d.fr<=f/\f<d.to)/\d.fr<d.to/\d.to<=b.fr/\f0<b.fr/\b.fr<N/\∀f∈b.places,b.fr<=f
def dfK (N:Nat):GK->T->Prop
 | .chF _ _ a,t=>∀m∈t.binds,∀f0 t0 r x k d b,m = .lett f0 t0 r x k d b->m∈a.binds\/Df N f0 d b
 | .caF a,t=>∀m∈t.binds,∀f0 t0 r x k d b,m = .lett f0 t0 r x k d b->m∈a.binds\/Df N f0 d b
 | _,t=>∀m∈t.binds,∀f0 t0 r x k d b,m = .lett f0 t0 r x k d b->Df N f0 d b
theorem zzd {N:Nat} {l:List UInt8} {k:GK} {ws:List Tok} {t:T} (h:G l k ws t):ws.Pairwise (fun a b=>a.to<=b.fr)->(∀a∈ws,a.fr<a.to/\a.to<=N)->dfK N k t:=by
 induction h with
 | @lett tl tn te ti rcs ds bs rc d b hl hrc hn he hi hp D B ihD ihB =>
  intro hp hlt m hm f0 t0 r x k d' b' e
  have p1:=(List.pairwise_cons.1 hp).2
  have p2:=(List.pairwise_append.1 p1).2.1
  have p3:=(List.pairwise_cons.1 (List.pairwise_cons.1 p2).2).2
  have p4:=List.pairwise_append.1 p3
  have hds:∀a∈ds,a.fr<a.to/\a.to<=N:=fun a ha=>hlt a (by simp [ha])
  have hbs:∀a∈bs,a.fr<a.to/\a.to<=N:=fun a ha=>hlt a (by simp [ha])
  simp only [T.binds,zmC,zmA] at hm
  rcases hm with rfl | hm | hm
  ·cases e
   obtain ⟨td,rd,ed1,ed2⟩:=G.begins D
   obtain ⟨qd,zd,ed3,ed4⟩:=G.ends D
   obtain ⟨tb,rb,eb1,eb2⟩:=G.begins B
   have mtd:td∈ds:=by rw [ed1]; simp
   have mzd:zd∈ds:=by rw [ed3]; simp
   have mtb:tb∈bs:=by rw [eb1]; simp
   have htl:=hlt tl (by simp)
   have h1:=hds td mtd
   have h2:=hds zd mzd
   have h3:=hbs tb mtb
   have h4:=(List.pairwise_cons.1 hp).1 tb (by simp [mtb])
   have h5:=p4.2.2 zd mzd tb (by simp [mtb])
   have h6:td.fr<zd.to:=by
    have hpd:=p4.1
    rw [ed1] at mzd hpd
    rcases zmC.1 mzd with rfl | hm
    ·exact h2.1
    ·have:=(List.pairwise_cons.1 hpd).1 zd hm
     omega
   exact ⟨zt5 D p4.1 (fun a ha=>(hds a ha).1),by omega,by omega,by simp only [eb2]; omega,by omega,fun f hf=>(zt5 B (List.pairwise_cons.1 p4.2.1).2 (fun a ha=>(hbs a ha).1) f hf).1⟩
  ·exact ihD p4.1 hds m hm _ _ _ _ _ _ _ e
  ·exact ihB (List.pairwise_cons.1 p4.2.1).2 (fun a ha=>hlt a (by simp [ha])) m hm _ _ _ _ _ _ _ e
 | @fn tl tn ta bs b hl hn ha hp B ihB =>
  intro hp hlt m hm f0 t0 r x k d' b' e
  simp only [T.binds,zmC] at hm
  rcases hm with rfl | hm
  ·cases e
  ·exact ihB (List.pairwise_cons.1 (List.pairwise_cons.1 (List.pairwise_cons.1 hp).2).2).2 (fun a ha=>hlt a (by simp [ha])) m hm _ _ _ _ _ _ _ e
 | @cond tl t1 t2 cs xs ys c x y hl h1 h2 C X Y ihC ihX ihY =>
  intro hp hlt m hm f0 t0 r x' k d' b' e
  have p1:=List.pairwise_append.1 (List.pairwise_cons.1 hp).2
  have p2:=List.pairwise_append.1 (List.pairwise_cons.1 p1.2.1).2
  simp only [T.binds,zmA] at hm
  rcases hm with hm | hm | hm
  ·exact ihC p1.1 (fun a ha=>hlt a (by simp [ha])) m hm _ _ _ _ _ _ _ e
  ·exact ihX p2.1 (fun a ha=>hlt a (by simp [ha])) m hm _ _ _ _ _ _ _ e
  ·exact ihY (List.pairwise_cons.1 p2.2.1).2 (fun a ha=>hlt a (by simp [ha])) m hm _ _ _ _ _ _ _ e
 | ecmp _ ih=>exact ih
 | cmp1 _ ih=>exact ih
 | @cmp2 w1 w2 sg x y X hs Y ihX ihY =>
  intro hp hlt m hm f0 t0 r x' k d' b' e
  have p1:=List.pairwise_append.1 hp
  simp only [T.binds,zmA] at hm
  rcases hm with hm | hm
  ·exact ihX p1.1 (fun a ha=>hlt a (by simp [ha])) m hm _ _ _ _ _ _ _ e
  ·exact ihY (List.pairwise_cons.1 p1.2.1).2 (fun a ha=>hlt a (by simp [ha])) m hm _ _ _ _ _ _ _ e
 | sum _ _ ih ih2 =>
  intro hp hlt m hm f0 t0 r x' k d' b' e
  have p1:=List.pairwise_append.1 hp
  rcases ih2 p1.2.1 (fun a ha=>hlt a (by simp [ha])) m hm _ _ _ _ _ _ _ e with h | h
  ·exact ih p1.1 (fun a ha=>hlt a (by simp [ha])) m h _ _ _ _ _ _ _ e
  ·exact h
 | term _ _ ih ih2 =>
  intro hp hlt m hm f0 t0 r x' k d' b' e
  have p1:=List.pairwise_append.1 hp
  rcases ih2 p1.2.1 (fun a ha=>hlt a (by simp [ha])) m hm _ _ _ _ _ _ _ e with h | h
  ·exact ih p1.1 (fun a ha=>hlt a (by simp [ha])) m h _ _ _ _ _ _ _ e
  ·exact h
 | chN=>intro _ _ m hm _ _ _ _ _ _ _ _; exact .inl hm
 | @chC p g a sg w1 w2 y t hs Y C ihY ihC =>
  intro hp hlt m hm f0 t0 r x' k d' b' e
  have p1:=List.pairwise_append.1 (List.pairwise_cons.1 hp).2
  have hy:∀m∈y.binds,∀f0 t0 r x k d b,m = .lett f0 t0 r x k d b->Df N f0 d b:=by
   have:=ihY p1.1 (fun a ha=>hlt a (by simp [ha]))
   cases p <;> exact this
  rcases ihC p1.2.1 (fun a ha=>hlt a (by simp [ha])) m hm _ _ _ _ _ _ _ e with h | h
  ·simp only [T.binds,zmA] at h
   rcases h with h | h
   ·exact .inl h
   ·exact .inr (hy m h _ _ _ _ _ _ _ e)
  ·exact .inr h
 | call _ _ ih ih2 =>
  intro hp hlt m hm f0 t0 r x' k d' b' e
  have p1:=List.pairwise_append.1 hp
  rcases ih2 p1.2.1 (fun a ha=>hlt a (by simp [ha])) m hm _ _ _ _ _ _ _ e with h | h
  ·exact ih p1.1 (fun a ha=>hlt a (by simp [ha])) m h _ _ _ _ _ _ _ e
  ·exact h
 | caN=>intro _ _ m hm _ _ _ _ _ _ _ _; exact .inl hm
 | @caC a w1 w2 y t Y C ihY ihC =>
  intro hp hlt m hm f0 t0 r x' k d' b' e
  have p1:=List.pairwise_append.1 hp
  rcases ihC p1.2.1 (fun a ha=>hlt a (by simp [ha])) m hm _ _ _ _ _ _ _ e with h | h
  ·simp only [T.binds,zmA] at h
   rcases h with h | h
   ·exact .inl h
   ·exact .inr (ihY p1.1 (fun a ha=>hlt a (by simp [ha])) m h _ _ _ _ _ _ _ e)
  ·exact .inr h
 | @leaf tk x hb h16 h =>
  intro _ _ m hm
  exfalso
  unfold zeq at h
  split at h
  ·split at h
   ·obtain ⟨v,_,h⟩:=zbE.1 h
    cases h; cases hm
   ·cases h
  ·split at h
   ·cases h; cases hm
   ·split at h
    ·cases h; cases hm
    ·split at h
     ·cases h; cases hm
     ·cases h
 | @bracket ta tc ws x ha hc X ih =>
  intro hp hlt
  exact ih (List.pairwise_append.1 (List.pairwise_cons.1 hp).2).1 (fun a ha=>hlt a (by simp [ha]))
 | @pair ta tm tc w1 w2 x y ha hm' hc X Y ihX ihY =>
  intro hp hlt m hm f0 t0 r x' k d' b' e
  have p1:=List.pairwise_append.1 (List.pairwise_cons.1 hp).2
  have p2:=List.pairwise_append.1 (List.pairwise_cons.1 p1.2.1).2
  simp only [T.binds,zmA] at hm
  rcases hm with hm | hm
  ·exact ihX p1.1 (fun a ha=>hlt a (by simp [ha])) m hm _ _ _ _ _ _ _ e
  ·exact ihY p2.1 (fun a ha=>hlt a (by simp [ha])) m hm _ _ _ _ _ _ _ e
def ownF (t:T) (f:Nat):Bool:=t.binds.any fun m=>match m with
 | .lett a b true z k md mb=>decide (md.fr<=f/\f<md.to)&&decide (f∈(T.lett a b true z k md mb).useS)
 | _=>false
def zli (l:List UInt8) (n:T):List UInt8 :=
 match n with
 | .lett _ _ _ x _ d b=>chgR 0 l ((n.fr,b.fr,[])::chB x.length (zch l d) n.useS)
 | _=>l
theorem ydo {l:List UInt8} {k:GK} {ws:List Tok} {t:T} (h:G l k ws t):okK k->∀u∈ws,u.sort≠0:=by
 induction h with
 | @lett tl tn te ti rcs ds bs rc d b hl hrc hn he hi hp D B ihD ihB =>
  intro _ u hu
  simp only [zmC,zmA] at hu
  rcases hu with rfl | hu | rfl | rfl | hu | rfl | hu
  ·omega
  ·rcases hrc with ⟨rfl,_⟩ | ⟨r,rfl,h4,_⟩
   ·cases hu
   ·rw [List.mem_singleton] at hu; subst hu; omega
  ·omega
  ·omega
  ·exact ihD trivial u hu
  ·omega
  ·exact ihB trivial u hu
 | @fn tl tn ta bs b hl hn ha hp B ihB =>
  intro _ u hu
  simp only [zmC] at hu
  rcases hu with rfl | rfl | rfl | hu
  ·omega
  ·omega
  ·omega
  ·exact ihB trivial u hu
 | @cond tl t1 t2 cs xs ys c x y hl h1 h2 C X Y ihC ihX ihY =>
  intro _ u hu
  simp only [zmC,zmA] at hu
  rcases hu with rfl | hu | rfl | hu | rfl | hu
  ·omega
  ·exact ihC trivial u hu
  ·omega
  ·exact ihX trivial u hu
  ·omega
  ·exact ihY trivial u hu
 | ecmp _ ih=>intro _; exact ih trivial
 | cmp1 _ ih=>intro _; exact ih trivial
 | @cmp2 w1 w2 sg x y X hs Y ihX ihY =>
  intro _ u hu
  simp only [zmC,zmA] at hu
  rcases hu with hu | rfl | hu
  ·exact ihX trivial u hu
  ·omega
  ·exact ihY trivial u hu
 | sum _ _ ih ih2 =>
  intro _ u hu
  rcases zmA.1 hu with hu | hu
  ·exact ih trivial u hu
  ·exact ih2 g19 u hu
 | term _ _ ih ih2 =>
  intro _ u hu
  rcases zmA.1 hu with hu | hu
  ·exact ih trivial u hu
  ·exact ih2 g21 u hu
 | chN=>intro _ u hu; cases hu
 | @chC p g a sg w1 w2 y t hs Y C ihY ihC =>
  intro hok u hu
  simp only [zmC,zmA] at hu
  rcases hu with rfl | hu | hu
  ·exact (hok _ hs).1
  ·exact ihY (by cases p <;> trivial) u hu
  ·exact ihC hok u hu
 | call _ _ ih ih2 =>
  intro _ u hu
  rcases zmA.1 hu with hu | hu
  ·exact ih trivial u hu
  ·exact ih2 trivial u hu
 | caN=>intro _ u hu; cases hu
 | caC _ _ ih ih2 =>
  intro _ u hu
  rcases zmA.1 hu with hu | hu
  ·exact ih trivial u hu
  ·exact ih2 trivial u hu
 | @leaf tk x hb h16 h =>
  intro _ u hu
  rw [List.mem_singleton] at hu
  subst hu
  simp only [zal,decide_eq_true_eq] at hb
  omega
 | @bracket ta tc ws x ha hc X ih =>
  intro _ u hu
  simp only [zmC,zmA,List.not_mem_nil,or_false] at hu
  rcases hu with rfl | hu | rfl
  ·omega
  ·exact ih trivial u hu
  ·omega
 | @pair ta tm tc w1 w2 x y ha hm hc X Y ihX ihY =>
  intro _ u hu
  simp only [zmC,zmA,List.not_mem_nil,or_false] at hu
  rcases hu with rfl | hu | rfl | hu | rfl
  ·omega
  ·exact ihX trivial u hu
  ·omega
  ·exact ihY trivial u hu
  ·omega
theorem zts {l:List UInt8} {body:List Tok} {fuel:Nat} {t:T} (hL:Lex 0 l body) (hp:zb9 l (body ++ [⟨0,l.length,l.length⟩]) fuel=some (.ok t)):G l .expr body t/\∀ {t2:T},G l .expr body t2->t=t2:=by
 have hb:∀u∈body,u.sort≠0:=fun u hu=>((hL.toks).1 u hu).sort
 obtain ⟨s,h1,h2,h3⟩:=zxt hb hp
 have hst:(⟨0,0,false,0⟩:PS).stuck=false:=rfl
 obtain ⟨ws,⟨g1,g2⟩,g⟩:=(zvn l _ fuel).expr h1 h2
 simp only [List.drop_zero,Nat.zero_add] at g1 g2
 have hle:s.next<=body.length:=by
  rcases Nat.lt_or_ge body.length s.next with h | h
  ·exfalso
   -- the last token is no part of an expr
   have hw:ws.length=s.next:=g2.symm
   have:(⟨0,l.length,l.length⟩:Tok)∈ws:=by
    have e:(body ++ [⟨0,l.length,l.length⟩])[body.length]? = some (⟨0,l.length,l.length⟩:Tok):=by simp
    rw [g1,List.getElem?_append_left (by omega)] at e
    exact List.mem_of_getElem? e
   exact absurd rfl (ydo g trivial _ this)
  ·exact h
 have hn:=h3 hle
 have hw:ws=body:=by
  have e:=congrArg (List.take body.length) g1
  rw [List.take_append_of_le_length (znL _),List.take_length,List.take_append_of_le_length (by omega),List.take_of_length_le (by omega)] at e
  exact e.symm
 subst hw
 exact ⟨g,fun {t2} g'=>(yfq l _ g' (u:=⟨0,l.length,l.length⟩) (rest:=[]) trivial (show zbt 0=true by decide) (by simp) rfl h1 h2).1⟩
theorem ydp {fo fo':Nat} {l:List UInt8} {t t':T} {sh sh':List UInt8} (h:zcd 6100 fo l=some (.fine t sh)) {n d b:T} {f0 t0 k0:Nat} {x:List UInt8} (hn:n∈t.binds) (he:n = .lett f0 t0 false x k0 d b) (hv:isV (ownF t) d=true) (hc:¬captD x d b []) (h':zcd 6100 fo' (zli l n)=some (.fine t' sh')) {m bud:Nat} {r:Int×Nat×List UInt8} (hr:runS m t bud=some r):∃m',runS m' t' bud=some r:=by
 obtain ⟨hl,body,hL,_,hp,htr⟩:=zcw h
 obtain ⟨hl',body',hL',_,hp',_⟩:=zcw h'
 obtain ⟨hG,_⟩:=zts hL hp
 obtain ⟨_,huniq⟩:=zts hL' hp'
 have hT:=znh hL hp
 have hnd:t.places.Nodup:=hT.inc.imp (fun h=>Nat.ne_of_lt h)
 have hfree:=(ze4 htr).2.1
 have hB:Bd [] t:=zb0 (E:=[]) (fun e he=>by cases he) hfree
 obtain ⟨F,hP⟩:=zh3 [] hn
 have hF:=hP.allB (fun e he=>by cases he)
 have hBn:=hP.bd hB
 have hap:=zlg hL
 have hlt:∀a∈body,a.fr<a.to:=fun a ha=>((hL.toks).1 a ha).lt
 have hdf:=zzd (N:=l.length) hG hap (fun a ha=>⟨hlt a ha,by have:=((hL.toks).1 a ha).high; omega⟩)
 have hsub:=za2 hn
 subst he
 have hndn:(T.lett f0 t0 false x k0 d b).places.Nodup:=hnd.sublist hsub.1
 simp only [T.places,List.nodup_cons,List.nodup_append] at hndn
 have hown:∀z,hitB F z false->∀f∈d.occ z [],ownF t f=true:=fun z hz f hf=>by
  rcases yf6 hP hz with ⟨hq,_⟩ | ⟨mm,hm,a1,a2,a3,md,mb,rfl,hocc⟩
  ·exact hq.elim
  ·have hfm:=hocc f (by simp only [T.occ,Bool.false_eq_true,if_false]; exact List.mem_append_left _ hf)
   have hpl:=(hdf _ hm _ _ _ _ _ _ _ rfl).1 f (zat z md [] f hfm)
   unfold ownF
   rw [List.any_eq_true]
   refine ⟨_,hm,?_⟩
   simp only [Bool.and_eq_true,decide_eq_true_eq]
   exact ⟨hpl,by simp only [T.useS,if_true]; exact List.mem_append_left _ hfm⟩
 have hV:Vd F d:=zza hv hBn.1 hown
 have huse:(T.lett f0 t0 false x k0 d b).useS=b.occ x []:=by simp [T.useS]
 have hO:Okk (· ∈ (T.lett f0 t0 false x k0 d b).useS) d (.left x d::F) b:=by
  rw [huse]
  exact zfq hBn.1 (I:=[]) (fun e he=>by cases he) hndn.2.2.1 hBn.2 (fun f _=>Iff.rfl) hc
 have hR:=zkt hT hL (zbj t hnd _ hn)
 have hR2:Reps x.length body (T.lett f0 t0 false x k0 d b).useS:=⟨(List.pairwise_cons.1 hR.1).2,fun f hf=>hR.2 f (List.mem_cons_of_mem _ hf)⟩
 obtain ⟨t2,g2,s2⟩:=ydn hL hG rfl hP hB hV hO hR2 (fun f hf=>by rw [huse] at hf; exact zat x b [] f hf) rfl hL'
 have:=huniq g2
 subst this
 exact s2.run hr
end Inl
end Go.Proofs.YtckhafpejefbbaaGreatDoor.Tw
namespace Go.Proofs.YtckhafpejefbbaaGreatDoor
open Go.RowKit
theorem zze {w:World} {b:Nat} {u v u' v':Value} {t:TypeId} (hb:w.heap[b]? = some (.cells #[u,v] t (0,0))):((w.setCell ⟨b,0,none⟩ u').setCell ⟨b,1,none⟩ v').heap[b]? = some (.cells #[u',v'] t (0,0))/\w.grownBy ((w.setCell ⟨b,0,none⟩ u').setCell ⟨b,1,none⟩ v') (some b):=by
 constructor
 ·unfold World.setCell
  simp only
  rw [Array.getElem?_modify,if_pos rfl,Array.getElem?_modify,if_pos rfl,hb]
  rfl
 ·refine ⟨rfl,rfl,rfl,by unfold World.setCell; simp,fun k _ hk => ?_⟩
  have hne:k≠b:=fun e=>hk (by rw [e])
  rw [Below.heap_setCell _ _ _ k hne,Below.heap_setCell _ _ _ k hne]
theorem yez {w w':World} {b:Nat} {c:Array Value} (hb:w.heap[b]? = some (.cells c 72 (0,0))) (hg:w.grownBy w' (some b)):Kp w w':=by
 intro k c' t m hk ht
 refine (hg.block k (zgE.1 hk).1 ?_).trans hk
 intro e
 cases e
 rw [hb] at hk
 cases hk
 exact absurd ht (by decide)
theorem zoq {w w1 w2:World} {b:Nat} (h:w.grownBy w1 none) (k:w1.grownBy w2 (some b)):w.grownBy w2 (some b) :=
 ⟨k.os.trans h.os,k.tape.trans h.tape,k.output.trans h.output,Nat.le_trans h.size k.size,fun i hi hn=>(k.block i (Nat.lt_of_lt_of_le hi h.size) hn).trans (h.block i hi (by simp))⟩
theorem zpd (hIB:Said.IndexByte) (hPI:Said.ParseInt) (hIt:Said.ItoaSmall) {w:World} {bt:Nat} {s s':ByteArray} {t t':Tw.T} {sh:List UInt8} {fo:Nat} (hT:TextAt w bt s t) (ho:Tw.zcd 6100 fo s'.data.toList=some (.fine t' sh)) :
  Calls Tryz.prog 37 #[.pointer (some ⟨bt,0,none⟩),.string s',.int .i64 0] w fun e w'=>e = .returned (.int .i64 0)/\TextAt w' bt s' t'/\w.grownBy w' (some bt):=by
 obtain ⟨hi,tv,hb,_⟩:=hT
 have HB:=bV hb
 clear hb
 go_enter Tryz.func37,Tryz.ntmps37
 go_wp2_with fail
 refine (zqh hIB hPI hIt ho w).mono ?_
 rintro e1 w1 ⟨bn,rfl,⟨hi',tv',hbn,hr'⟩,hk⟩
 have g1:=hk.grown
 have b1:=zbG g1 (uh HB)
 have c0:w1.cell? ⟨bn,0,none⟩=some (.string s'):=zcR hbn
 have c1:w1.cell? ⟨bn,1,none⟩=some tv':=zcR hbn
 obtain ⟨PT,nt,rfl⟩:=hr'.iface
 have HR:=bV hr'
 have G1:=bV g1
 have B1:=bV b1
 have d0:w1.cell? ⟨bt,0,none⟩=some (.string s):=zcR b1
 have d1:w1.cell? ⟨bt,1,none⟩=some tv:=zcR b1
 have f0:w1.frozen? ⟨bt,0,none⟩=false:=frozen_of_row _ _ _ _ _ b1
 have f1:w1.frozen? ⟨bt,1,none⟩=false:=frozen_of_row _ _ _ _ _ b1
 clear hk g1 b1 hr' hbn
 go_wp2_with fail
 go_ret
 go_light
 obtain ⟨q1,q2⟩:=zze (u':=.string s') (v':=.iface PT (.pointer (some ⟨nt,0,none⟩))) (uh B1)
 exact ⟨rfl,⟨hi',_,q1,(uh HR).kp (yez (uh B1) q2)⟩,zoq (uh G1) q2⟩
open Go Go.RowKit
variable {P : Program} {n : Nat}
theorem ztt (lr:Nat) {o:Oper} {a:Act} {K:Act->World->Prop} {Q:Exit->Act->World->Prop} {r:Result Next} (h:o.upon P a K Q r):o.uponIn (Fence.wide.inRound lr) n P a K Q r:=by
 cases r with
 | ok x w =>
  cases x with
  | value v=>exact h
  | skip=>exact h
  | defer d=>exact h
  | enter f args=>exact ⟨fun h=>(by cases h),CallsIn.inRound lr (callsIn_wide.2 h)⟩
  | row row args=>exact ⟨fun h=>(by cases h),fun c cs _=>by obtain ⟨v,w',r,s⟩:=h c cs; exact ⟨v,w',r,stepsIn_wide.2 s⟩⟩
  | _=>exact h.elim
 | halt e w =>
  cases e with
  | panic v=>exact h
  | _=>exact h.elim
theorem zlz (lr:Nat) {md:Region.Mode} {ops:Array Oper} {Q:Exit->Act->World->Prop} (hlo:¬LetsOut Q) (hd:∀(i:Nat) (o:Oper),ops[i]? = some o->∀c,o.op ≠ .defer c) :
  ∀(fuel:Nat) (listed:Array Bool) (a:Act) (w:World),wpAny P md ops Q fuel listed a w->wpAnyIn (Fence.wide.inRound lr) n P md ops Q fuel listed a w
 | 0,_,_,_,h=>h
 | fuel+1,listed,a,w,h=>by
  refine ⟨h.1,fun i hi => ?_⟩
  have h2:=wpOp_mono (K':=wpAnyIn (Fence.wide.inRound lr) n P md ops Q fuel (listed.setIfInBounds i true)) (fun a w=>zlz lr hlo hd fuel _ a w) (h.2 i hi)
  unfold wpOp at h2
  unfold wpOpIn
  split
  ·rename_i ho
   simp only [ho] at h2
   exact h2
  ·rename_i o ho
   simp only [ho] at h2
   split
   ·rename_i hw
    simp only [hw,if_true] at h2
    rcases h2 with h2 | h2
    ·refine ⟨fun _ _=>trivial,?_⟩
     rw [show (Fence.wide.inRound lr).round=some lr from rfl,Oper.semAt_some lr a.eval o (hd i o ho)]
     exact ztt lr h2
    ·exact absurd h2.2 hlo
   ·rename_i hw
    simp only [hw] at h2
    exact ⟨fun _ _=>trivial,h2⟩
def zjv (Q:Exit->Act->World->Prop) (e:Exit) (a:Act) (w:World):Prop:=e = .normal/\Q .normal a w
theorem zd1 (lr:Nat) {id:Nat} {Q:Exit->Act->World->Prop} {a:Act} {w:World} {l:List Oper} (S:World->Prop) (hm:P.follows .mixedOrders=true) (hd:zt4 l=true) (hS:S w.drew)
  (h:S w.drew->wpAnyH P .any l.toArray (zjv Q) S l.toArray.size (Array.replicate l.toArray.size false) a w.drew):(Code.region id l.toArray true).wpIn (Fence.wide.inRound lr) n P Q a w:=by
 refine wpIn_mono (Q:=zjv Q) (wpIn_region_any hm (zlz lr ?_ (znd hd) _ _ _ _ (wpAny_of_held (S:=S) _ _ _ _ (h hS)))) ?_
 ·rintro ⟨a,w,h,_⟩
  cases h
 ·rintro e a w ⟨rfl,h⟩
  exact h
theorem ze0 {Q:Exit->Act->World->Prop} {d:Option Tmp} {v:Value}:∀c a w,zjv Q (.panic c) (Act.put a d v) w->zjv Q (.panic c) a w:=fun _ _ _ h=>by cases h.1
theorem tkH {ops:Array Oper} {Q:Exit->Act->World->Prop} {S:World->Prop} (i:Nat) {oi:Oper} {v:Value} {fuel:Nat} {listed:Array Bool} {a:Act} {w:World} (hi:ops[i]? = some oi) (hy:∀w,S w->(execOp a.eval oi).run P w = .ok (.value v) w) (hS:S w)
  (h:wpAnyH P .any ops (zjv Q) S fuel (listed.setIfInBounds i true) (a.put oi.dst v) w) (h1:Region.wanted oi (yielded ops a.tmps)=true:=by rfl) (hs:Region.noSelect ops=true:=by kernel_rfl) (hf:Region.free .any ops listed i=true:=by kernel_rfl) (hr:(Region.ready .any ops listed).contains i=true:=by kernel_rfl):wpAnyH P .any ops (zjv Q) S (fuel+1) listed a w :=
 wpAnyH_take hi hs hf hr ze0 (.inl ⟨h1,hy⟩) hS h
theorem tkU {ops:Array Oper} {Q:Exit->Act->World->Prop} {S:World->Prop} (i:Nat) {oi:Oper} {fuel:Nat} {listed:Array Bool} {a:Act} {w:World} (hi:ops[i]? = some oi) (hS:S w)
  (h:wpAnyH P .any ops (zjv Q) S fuel (listed.setIfInBounds i true) (a.put oi.dst undef) w) (h1:Region.wanted oi (yielded ops a.tmps)=false:=by rfl) (hs:Region.noSelect ops=true:=by kernel_rfl) (hf:Region.free .any ops listed i=true:=by kernel_rfl) (hr:(Region.ready .any ops listed).contains i=true:=by kernel_rfl):wpAnyH P .any ops (zjv Q) S (fuel+1) listed a w :=
 wpAnyH_take hi hs hf hr ze0 (.inr ⟨h1,rfl⟩) hS h
end Go.Proofs.YtckhafpejefbbaaGreatDoor 
namespace Go.Proofs.YtckhafpejefbbaaGreatDoor
open Go Go.RowKit
variable {P : Program} {n : Nat}
theorem zrz {o:Oper} {a:Act} {K:Act->World->Prop} {Q:Exit->Act->World->Prop} {r:Result Next} (h:o.upon P a K Q r):o.uponIn (Fence.wide) n P a K Q r:=by
 cases r with
 | ok x w =>
  cases x with
  | value v=>exact h
  | skip=>exact h
  | defer d=>exact h
  | enter f args=>exact ⟨fun h=>(by cases h),callsIn_wide.2 h⟩
  | row row args=>exact ⟨fun h=>(by cases h),fun c cs _=>by obtain ⟨v,w',r,s⟩:=h c cs; exact ⟨v,w',r,stepsIn_wide.2 s⟩⟩
  | _=>exact h.elim
 | halt e w =>
  cases e with
  | panic v=>exact h
  | _=>exact h.elim
theorem zkw {md:Region.Mode} {ops:Array Oper} {Q:Exit->Act->World->Prop} (hlo:¬LetsOut Q) :
  ∀(fuel:Nat) (listed:Array Bool) (a:Act) (w:World),wpAny P md ops Q fuel listed a w->wpAnyIn (Fence.wide) n P md ops Q fuel listed a w
 | 0,_,_,_,h=>h
 | fuel+1,listed,a,w,h=>by
  refine ⟨h.1,fun i hi => ?_⟩
  have h2:=wpOp_mono (K':=wpAnyIn (Fence.wide) n P md ops Q fuel (listed.setIfInBounds i true)) (fun a w=>zkw hlo fuel _ a w) (h.2 i hi)
  unfold wpOp at h2
  unfold wpOpIn
  split
  ·rename_i ho
   simp only [ho] at h2
   exact h2
  ·rename_i o ho
   simp only [ho] at h2
   split
   ·rename_i hw
    simp only [hw,if_true] at h2
    rcases h2 with h2 | h2
    ·refine ⟨fun _ _=>trivial,?_⟩
     exact zrz h2
    ·exact absurd h2.2 hlo
   ·rename_i hw
    simp only [hw] at h2
    exact ⟨fun _ _=>trivial,h2⟩
theorem zpe {id:Nat} {Q:Exit->Act->World->Prop} {a:Act} {w:World} {l:List Oper} (S:World->Prop) (hm:P.follows .mixedOrders=true) (hS:S w.drew)
  (h:S w.drew->wpAnyH P .any l.toArray (zjv Q) S l.toArray.size (Array.replicate l.toArray.size false) a w.drew):(Code.region id l.toArray true).wpIn (Fence.wide) n P Q a w:=by
 refine wpIn_mono (Q:=zjv Q) (wpIn_region_any hm (zkw ?_ _ _ _ _ (wpAny_of_held (S:=S) _ _ _ _ (h hS)))) ?_
 ·rintro ⟨a,w,h,_⟩
  cases h
 ·rintro e a w ⟨rfl,h⟩
  exact h
end Go.Proofs.YtckhafpejefbbaaGreatDoor 
namespace Go.Proofs.YtckhafpejefbbaaGreatDoor
open Go.RowKit Go.Shelf
attribute [local go_sem] Oper.semAt_some
section
variable {P : Program} {α : Type} {n : Nat} {g : Operand} {ps : Array Tmp} {assign body : Code} {Q : Exit -> Act -> World -> Prop} {a : Act} {w : World}
theorem zyd {p q d1:Tmp} {gf:Nat} {lb:Array Value} (hg:a.eval g = .func (.func gf) #[] lb) (eg:∀args w,(callFunc gf args).run P w = .ok (.enter gf args) w)
  {e1 e2 : α -> Value} {Ok : α -> World->Prop} {Kp:World->World->Prop} {S Sp:List α -> Prop} {N:Nat} {w0:World} (hseq:zsr P gf lb (fun x => #[e1 x,e2 x]) Ok Kp S Sp N w0) (hOk:∀x,OwnFrom w.heap.size (fun (_:Unit) W=>Ok x W))
  (hKt:∀ {A B C:World},Kp A B->Kp B C->Kp A C) (hKb:∀(W:World) (l:Nat) (o o':Obj),w.heap.size<=l->W.heap[l]? = some o->o.isCells=false->o.isWalk=false->Kp W (W.putObj l o')) (hb0:Below w0.heap.size w0 w)
  (I:List α -> World->Prop) (Ix:Code->List α -> World->Prop) (hI:OwnFrom w.heap.size I) (hIx:∀c,OwnFrom w.heap.size (Ix c)) (h0:I [] w)
  (hassign:∀(l:Nat) (x : α) (W:World) (K:Act->World->Prop),K {tmps:=((a.tmps.setIfInBounds p (e1 x)).setIfInBounds q (e2 x)).setIfInBounds d1 (e1 x),defers:=[]} W ->
   assign.wpIn (Fence.wide.inRound l) 0 P (Exit.then K (fun _ _ _=>False)) {tmps:=(a.tmps.setIfInBounds p (e1 x)).setIfInBounds q (e2 x),defers:=[]} W)
  (hbody:∀(l:Nat) (pre:List α) (x : α) (W:World),w.heap.size<=l->(∃r,W.heap[l]? = some (.loop r))->I pre W->pre.length<N->Ok x W->body.wpIn (Fence.wide.inRound l) 0 P (ownPostG w.heap.size Kp I Ix (pre ++ [x]) W) {tmps:=((a.tmps.setIfInBounds p (e1 x)).setIfInBounds q (e2 x)).setIfInBounds d1 (e1 x),defers:=[]} W)
  (hdone:∀(D:Nat) (xs:List α) (W:World),w.heap.size<=D->S xs->I xs W->W.heap[D]? = some (.deferred (some []))->Q .normal {a with defers := {target:=.collected D,args:=#[]}::a.defers} W)
  (hstop:∀(D:Nat) (c:Code) (pre:List α) (W:World),w.heap.size<=D->Sp pre->Ix c pre W->W.heap[D]? = some (.deferred (some []))->c.wpIn Fence.wide n P Q {a with defers := {target:=.collected D,args:=#[]}::a.defers} W) :
  (Code.rangeFunc g #[p,q] assign body).wpIn Fence.wide n P Q a w :=
 zps hg eg hseq hOk (fun h k=>hKt h k) hKb hb0 (fun _=>rfl) I Ix hI hIx h0 (fun x => {tmps:=((a.tmps.setIfInBounds p (e1 x)).setIfInBounds q (e2 x)).setIfInBounds d1 (e1 x),defers:=[]})
  (fun l x W K hK=>by simpa using hassign l x W K hK) hbody hdone hstop
end
theorem zpm {w:World} {hi:Nat} {d:Tw.T} {dv bv:Value} {LD:List NB} {e:Tw.BEn} (hn:NL w hi d dv .nil LD) (hb:BAt w e bv) :
  Calls Tryz.prog 113 #[dv,bv] w fun r w'=>r = .returned (.bool ((za5 LD).any fun y=>(e.look y.tx).isSome))/\w.grownBy w' none:=by
 obtain ⟨T1,m1,rfl⟩:=hn.iface
 obtain ⟨pb,rfl⟩:=hb.ptr
 refine (callsIn_wide (n:=3)).1 ?_
 refine callsIn_of_wp_marks Tryz.func113 rfl trivial ?_
 simp only [Tryz.ntmps113,List.size_toArray,List.length_cons,List.length_nil,Nat.reduceAdd,Nat.reduceSub,Array.replicate_succ,Array.replicate_zero,List.push_toArray,List.append_toArray,List.nil_append,List.cons_append]
 obtain ⟨W0,hW0⟩:∃W0,(w.alloc (.cells #[.pointer pb] 184)).alloc (.cells #[.bool false] 4)=W0:=⟨_,rfl⟩
 have G0:w.grownBy W0 none:=by rw [<-hW0]; exact zae (zae (zab _) _) _
 have z0:W0.heap.size=w.heap.size+2:=by rw [<-hW0]; simp
 have b0:W0.heap[w.heap.size]? = some (.cells #[.pointer pb] 184 (0,0)):=by rw [<-hW0]; exact (zep w _ _).2
 have r0:W0.heap[w.heap.size+1]? = some (.cells #[.bool false] 4 (0,0)):=by rw [<-hW0]; exact (zep w _ _).1
 gi_wp2_with fail
 refine ⟨trivial,?_⟩
 refine (callsIn_wide.2 (zkq W0 ⟨T1,m1,rfl⟩)).mono ?_
 rintro e1 w3 ⟨rfl,rfl⟩
 gi_wp2_with fail
 obtain ⟨W1,hW1⟩:∃W1,W0.alloc (.cells #[.iface T1 (.pointer (some ⟨m1,0,none⟩))] 68)=W1:=⟨_,rfl⟩
 have G1:W0.grownBy W1 none:=by rw [<-hW1]; exact zwA _ _ none
 have z1:W1.heap.size=w.heap.size+3:=by rw [<-hW1]; simp; omega
 have hne:W1.heap[W0.heap.size]? = some (.cells #[.iface T1 (.pointer (some ⟨m1,0,none⟩))] 68 (0,0)):=by rw [<-hW1]; exact zad W0 _
 have b1:=zbG G1 b0
 have r1:=zbG G1 r0
 have g1:=zaa G0 G1
 have hn1:=hn.kp (Kp.of_grown g1)
 have hb1:=hb.grown g1
 rw [z0] at hne
 rw [hW1]
 clear hW0 hW1 G0 G1 b0 r0 hn hb
 refine zyd (p:=8) (q:=9) (d1:=5) rfl (enters_of Tryz.func185 (by kernel_rfl) rfl) (znc hne hn1) (fun x=>FOk.own x _) (fun h k=>h.trans k) zlj (Below.refl _ _)
  (fun pre X=>(∀z∈pre,(e.look z.1.1.tx).isSome=false)/\W1.grownBy X none)
  (fun c pre X=>c = .ret/\∃init x,pre=init ++ [x]/\(∀z∈init,(e.look z.1.1.tx).isSome=false)/\(e.look x.1.1.tx).isSome=true/\Set1 W1 (w.heap.size+1) (.bool true) 4 X) ?own ?ownx ⟨by simp,zab _⟩ ?assign ?body ?done ?stop
 case own =>
  rintro s X Y row ⟨h1,h2⟩ hg hr
  exact ⟨h1,zc1 (β := Unit) W1 (znL _) () X Y row h2 hg hr⟩
 case ownx =>
  rintro c s X Y row ⟨h0,init,x,h1,h2,h3,h4⟩ hg hr
  exact ⟨h0,init,x,h1,h2,h3,Set1.own (β := Unit) (znL _) (by omega) () X Y row h4 hg hr⟩
 case assign =>
  intro l x X K hK
  simp only [zsA,zsZ,zsS] at hK ⊢
  gi_wp2
  exact hK
 case body =>
  rintro lr pre ⟨⟨x,ev⟩,hxf,hev⟩ X hlr hrec ⟨hpre,hgX⟩ hlt hok
  obtain ⟨a,ha⟩:=id hev
  obtain rfl:ev = .pointer a:=ha
  obtain ⟨_,hnb⟩:=hok
  dsimp only at hnb
  obtain ⟨_,_,cx,_,_,_⟩:=zaf hnb
  have HP:=bV hpre
  have HG:=bV hgX
  have bX:=zbG hgX b1
  have rX:=zbG hgX r1
  have cb:=(zag bX).1
  have HR:=bV rX
  have HS:=bV (fun k=>zlb (w:=X.drewN k) (hb1.grown (zaa hgX (za4 X k))) x.tx)
  obtain ⟨bl,hbl⟩:∃bl,(e.look x.tx).isSome=bl:=⟨_,rfl⟩
  rw [hbl] at HS
  have HBL:=bV hbl
  obtain ⟨cr,fr⟩:=zag rX
  simp only [zsA,zsZ,zsS]
  have hfn:Fence.wide.fn 118:=trivial
  clear hgX hpre bX rX hnb hbl
  gi_wp2_with fail
  refine zcj lr (by kernel_rfl) (by kernel_rfl) (by kernel_rfl) ?_
  repeat (gi_big_quiet_step (exact ⟨rfl,callsIn_wide.2 ((uh HS _).mono (by rintro e w' ⟨rfl,rfl⟩; exact ⟨rfl,_,rfl⟩))⟩))
  refine wpQuietIn_nil ?_
  intro _ hw'
  obtain ⟨nq,hw''⟩:=hw'
  subst hw''
  cases bl with
  | true =>
   gi_wp2_with fail
   exact ⟨za7 (zax (za4 X nq)) (za8 _ _ _),rfl,pre,_,rfl,uh HP,uh HBL,Set1.zer (zaa (uh HG) (za4 X nq)) (uh HR) _⟩
  | false =>
   gi_wp2_with fail
   exact ⟨zax (za4 X nq),Kp.of_grown (za4 X nq),fun z hz=>(by
    rcases zmA.1 hz with hz | hz
    ·exact uh HP z hz
    ·simp only [List.mem_singleton] at hz
     subst hz
     exact uh HBL),zaa (uh HG) (za4 X nq)⟩
 case done =>
  rintro D xs X hD hxs ⟨hpre,hg⟩ hK
  have rX:=zbG hg r1
  obtain ⟨cr,fr⟩:=zag rX
  gi_wp2_with fail
  have st:=Set1.zer hg rX (.bool false)
  have hK2:(X.setCell ⟨w.heap.size+1,0,none⟩ (.bool false)).heap[D]? = some (.deferred (some [])):=(za8 (B:=0) X _ _).same D _ (Nat.zero_le _) hK rfl
  refine ⟨by simp,.inl ⟨_,_,rfl,run_takeDeferred hK2,?_⟩⟩
  have st':=Set1.own (β := Unit) (znL _) (by omega) () _ _ (some D) st (grownBy_putObj' _ D (.deferred none)) (fun r e=>by cases e; exact ⟨by omega,_,hK2,rfl⟩)
  obtain ⟨e0,_⟩:=zag st'.res
  refine ⟨.bool false,by simp [results,Tryz.results113,go_sem,e0],?_,?_⟩
  ·have:((za5 LD).any fun y=>(e.look y.tx).isSome)=false:=by
    rw [List.any_eq_false]
    intro z hz
    rw [<-hxs] at hz
    obtain ⟨y,hy,rfl⟩:=List.mem_map.1 hz
    rw [hpre y hy]
    simp
   rw [this]
  ·refine ⟨st'.os.trans g1.os,st'.tape.trans g1.tape,st'.output.trans g1.output,by have:=st'.size; omega,fun k hk _=>(st'.old k (by omega) (by omega)).trans (g1.block k hk (by simp))⟩
 case stop =>
  rintro D c pre X hD hpre ⟨rfl,init,x,h1,h2,h3,h4⟩ hK
  gi_wp2_with fail
  refine ⟨by simp,.inl ⟨_,_,rfl,run_takeDeferred hK,?_⟩⟩
  have st':=Set1.own (β := Unit) (znL _) (by omega) () _ _ (some D) h4 (grownBy_putObj' _ D (.deferred none)) (fun r e=>by cases e; exact ⟨by omega,_,hK,rfl⟩)
  obtain ⟨e0,_⟩:=zag st'.res
  refine ⟨.bool true,by simp [results,Tryz.results113,go_sem,e0],?_,?_⟩
  ·have:((za5 LD).any fun y=>(e.look y.tx).isSome)=true:=by
    rw [List.any_eq_true]
    exact ⟨x.1.1,hpre.subset (by rw [h1]; simp),h3⟩
   rw [this]
  ·refine ⟨st'.os.trans g1.os,st'.tape.trans g1.tape,st'.output.trans g1.output,by have:=st'.size; omega,fun k hk _=>(st'.old k (by omega) (by omega)).trans (g1.block k hk (by simp))⟩
end Go.Proofs.YtckhafpejefbbaaGreatDoor 
namespace Go.Proofs.YtckhafpejefbbaaGreatDoor
open Go.RowKit Go.Shelf
attribute [local go_sem] Oper.semAt_some
def capD (x:List UInt8) (LD:List NB) (z:NB):Bool:=decide (z.tx=x)&&(za5 LD).any fun y=>(z.e.look y.tx).isSome
theorem zjj {w:World} {hi b:Nat} {c0 c1 c2 c4:Value} {x:List UInt8} {d bo:Tw.T} {dv bv:Value} {LD LB:List NB} (hb:w.heap[b]? = some (.cells #[c0,c1,c2,ug x,c4,dv,bv] 140 (0,0))) (hd:NL w hi d dv .nil LD) (hbo:NL w hi bo bv .nil LB) :
  Calls Tryz.prog 62 #[.pointer (some ⟨b,0,none⟩)] w fun r w'=>r = .returned (.bool ((za5 LB).any (capD x LD)))/\w.grownBy w' none:=by
 obtain ⟨T1,m1,rfl⟩:=hbo.iface
 obtain ⟨T2,m2,rfl⟩:=hd.iface
 refine (callsIn_wide (n:=3)).1 ?_
 refine callsIn_of_wp_marks Tryz.func62 rfl trivial ?_
 simp only [Tryz.ntmps62,List.size_toArray,List.length_cons,List.length_nil,Nat.reduceAdd,Nat.reduceSub,Array.replicate_succ,Array.replicate_zero,List.push_toArray,List.append_toArray,List.nil_append,List.cons_append]
 obtain ⟨W0,hW0⟩:∃W0,(w.alloc (.cells #[.pointer (some ⟨b,0,none⟩)] 136)).alloc (.cells #[.bool false] 4)=W0:=⟨_,rfl⟩
 have G0:w.grownBy W0 none:=by rw [<-hW0]; exact zae (zae (zab _) _) _
 have z0:W0.heap.size=w.heap.size+2:=by rw [<-hW0]; simp
 have l0:W0.heap[w.heap.size]? = some (.cells #[.pointer (some ⟨b,0,none⟩)] 136 (0,0)):=by rw [<-hW0]; exact (zep w _ _).2
 have r0:W0.heap[w.heap.size+1]? = some (.cells #[.bool false] 4 (0,0)):=by rw [<-hW0]; exact (zep w _ _).1
 have cl0:=(zag l0).1
 have b0:=zbG G0 hb
 have cb6:W0.cell? ⟨b,6,none⟩=some (.iface T1 (.pointer (some ⟨m1,0,none⟩))):=zcR b0
 gi_wp2_with fail
 refine ⟨trivial,?_⟩
 refine (callsIn_wide.2 (zkq W0 ⟨T1,m1,rfl⟩)).mono ?_
 rintro e1 w3 ⟨rfl,rfl⟩
 gi_wp2_with fail
 obtain ⟨W1,hW1⟩:∃W1,W0.alloc (.cells #[.iface T1 (.pointer (some ⟨m1,0,none⟩))] 68)=W1:=⟨_,rfl⟩
 have G1:W0.grownBy W1 none:=by rw [<-hW1]; exact zwA _ _ none
 have z1:W1.heap.size=w.heap.size+3:=by rw [<-hW1]; simp; omega
 have hne:W1.heap[W0.heap.size]? = some (.cells #[.iface T1 (.pointer (some ⟨m1,0,none⟩))] 68 (0,0)):=by rw [<-hW1]; exact zad W0 _
 have l1:=zbG G1 l0
 have r1:=zbG G1 r0
 have g1:=zaa G0 G1
 have b1:=zbG g1 hb
 have hn1:=hbo.kp (Kp.of_grown g1)
 have hd1:=hd.kp (Kp.of_grown g1)
 rw [z0] at hne
 rw [hW1]
 clear hW0 hW1 G0 G1 l0 r0 hbo hd cl0 cb6 b0
 refine zla (p:=10) (q:=11) (d1:=3) (d2:=4) rfl (enters_of Tryz.func185 (by kernel_rfl) rfl) (znc hne hn1) (fun x=>FOk.own x _) (fun h k=>h.trans k) zlj (Below.refl _ _)
  (fun pre X=>(∀z∈pre,capD x LD z.1.1=false)/\W1.grownBy X none)
  (fun c pre X=>c = .ret/\∃init z,pre=init ++ [z]/\(∀z∈init,capD x LD z.1.1=false)/\capD x LD z.1.1=true/\Set1 W1 (w.heap.size+1) (.bool true) 4 X) ?own ?ownx ⟨by simp,zab _⟩ ?assign ?body ?done ?stop
 case own =>
  rintro s X Y row ⟨h1,h2⟩ hg hr
  exact ⟨h1,zc1 (β := Unit) W1 (znL _) () X Y row h2 hg hr⟩
 case ownx =>
  rintro c s X Y row ⟨h0,init,x,h1,h2,h3,h4⟩ hg hr
  exact ⟨h0,init,x,h1,h2,h3,Set1.own (β := Unit) (znL _) (by omega) () X Y row h4 hg hr⟩
 case assign =>
  intro l x X K hK
  simp only [zsA,zsZ,zsS] at hK ⊢
  gi_wp2
  exact hK
 case body =>
  rintro lr pre ⟨⟨z,ev⟩,hxf,hev⟩ X hlr hrec ⟨hpre,hgX⟩ hlt hok
  obtain ⟨a,ha⟩:=id hev
  obtain rfl:ev = .pointer a:=ha
  obtain ⟨hbat,hnb⟩:=hok
  dsimp only at hbat hnb
  have lX:=zbG hgX l1
  have bX:=zbG hgX b1
  have rX:=zbG hgX r1
  have cells:∀ {W:World},X.grownBy W none->W.cell? ⟨z.nb,2,none⟩=some (ug z.tx)/\W.cell? ⟨w.heap.size,0,none⟩=some (.pointer (some ⟨b,0,none⟩))/\W.cell? ⟨b,3,none⟩=some (ug x)/\W.cell? ⟨b,5,none⟩=some (.iface T2 (.pointer (some ⟨m2,0,none⟩))):=fun {W} hW=>by
   have up:∀ {i:Nat} {ob:Obj},X.heap[i]? = some ob->W.heap[i]? = some ob:=fun {i ob} h=>(hW.block i (zgE.1 h).1 (by simp)).trans h
   obtain ⟨_,_,q,_,_,_⟩:=zaf (up hnb)
   exact ⟨q,(zag (up lX)).1,zcR (up bX),zcR (up bX)⟩
  have CE:=bV (fun W => @cells W)
  have HP:=bV hpre
  have HG:=bV hgX
  have HR:=bV rX
  have HBF:Hid (∀W,X.grownBy W none->Calls Tryz.prog 113 #[.iface T2 (.pointer (some ⟨m2,0,none⟩)),.pointer a] W fun r w'=>r = .returned (.bool ((za5 LD).any fun y=>(z.e.look y.tx).isSome))/\W.grownBy w' none):=bV fun W hW=>zpm (hd1.kp (Kp.of_grown (zaa hgX hW))) (hbat.grown hW)
  have hmx:Tryz.prog.follows .mixedOrders=true:=by kernel_rfl
  have good:capD x LD z=false->Hid (∀X',X.grownBy X' none->KeepsFrom W1.heap.size X X'/\Kp X X'/\(∀y∈pre ++ [(⟨(z,.pointer a),hxf,hev⟩:FIn LB)],capD x LD y.1.1=false)/\W1.grownBy X' none):=fun hc X' hg' =>
   ⟨zax hg',Kp.of_grown hg',fun y hy=>(by
    rcases zmA.1 hy with hy | hy
    ·exact uh HP y hy
    ·simp only [List.mem_singleton] at hy
     subst hy
     exact hc),zaa (uh HG) hg'⟩
  simp only [zsA,zsZ,zsS]
  have HN1:=bV hn1
  have HD1:=bV hd1
  have HB1:=bV (And.intro l1 (And.intro b1 r1))
  clear hgX hpre lX bX rX hnb hbat cells hn1 hd1 l1 b1 r1 hb g1 hne
  by_cases h1:z.tx=x
  ·rw [h1] at CE
   obtain ⟨bl,hbl⟩:∃bl,((za5 LD).any fun y=>(z.e.look y.tx).isSome)=bl:=⟨_,rfl⟩
   have hc:capD x LD z=bl:=by simp [capD,h1,hbl]
   have HC:=bV hc
   rw [hbl] at HBF
   clear h1 hc hbl
   gi_wp2_with fail
   refine zd1 lr (fun W=>W.cell? ⟨z.nb,2,none⟩=some (ug x)/\W.cell? ⟨w.heap.size,0,none⟩=some (.pointer (some ⟨b,0,none⟩))/\W.cell? ⟨b,3,none⟩=some (ug x)/\W.cell? ⟨b,5,none⟩=some (.iface T2 (.pointer (some ⟨m2,0,none⟩)))) hmx (by kernel_rfl) (uh CE _ (zac (zab _))) ?_
   intro hSd
   refine tkH 0 (oi:=⟨some 12,.move (.tmp 3),83,"inline.go:67",#[],none⟩) (v:=.pointer (some ⟨z.nb,0,none⟩)) rfl (fun W ⟨hs1,hs2,hs3,hs4⟩=>by go_simp) hSd ?_
   simp only [Act.put,zsA,zsZ,zsS]
   refine tkH 1 (oi:=⟨some 13,.nilCheck (.tmp 12),0,"inline.go:67",#[⟨0,.data⟩],none⟩) (v:=.pointer (some ⟨z.nb,0,none⟩)) rfl (fun W ⟨hs1,hs2,hs3,hs4⟩=>by go_simp) hSd ?_
   simp only [Act.put,zsA,zsZ,zsS]
   refine tkH 2 (oi:=⟨some 14,.fieldAddr 87 (.tmp 13) 1,0,"inline.go:67",#[⟨1,.data⟩],none⟩) (v:=.pointer (some ⟨z.nb,2,none⟩)) rfl (fun W ⟨hs1,hs2,hs3,hs4⟩=>by go_simp) hSd ?_
   simp only [Act.put,zsA,zsZ,zsS]
   refine tkH 3 (oi:=⟨some 15,.load 9 (.tmp 14),9,"inline.go:67",#[⟨2,.data⟩],none⟩) (v:=ug x) rfl (fun W ⟨hs1,hs2,hs3,hs4⟩=>by go_simp) hSd ?_
   simp only [Act.put,zsA,zsZ,zsS]
   refine tkH 4 (oi:=⟨some 16,.load 136 (.tmp 1),136,"inline.go:67",#[],none⟩) (v:=.pointer (some ⟨b,0,none⟩)) rfl (fun W ⟨hs1,hs2,hs3,hs4⟩=>by go_simp) hSd ?_
   simp only [Act.put,zsA,zsZ,zsS]
   refine tkH 5 (oi:=⟨some 17,.nilCheck (.tmp 16),0,"inline.go:67",#[⟨4,.data⟩],none⟩) (v:=.pointer (some ⟨b,0,none⟩)) rfl (fun W ⟨hs1,hs2,hs3,hs4⟩=>by go_simp) hSd ?_
   simp only [Act.put,zsA,zsZ,zsS]
   refine tkH 6 (oi:=⟨some 18,.fieldAddr 140 (.tmp 17) 2,0,"inline.go:67",#[⟨5,.data⟩],none⟩) (v:=.pointer (some ⟨b,3,none⟩)) rfl (fun W ⟨hs1,hs2,hs3,hs4⟩=>by go_simp) hSd ?_
   simp only [Act.put,zsA,zsZ,zsS]
   refine tkH 7 (oi:=⟨some 19,.fieldAddr 89 (.tmp 18) 0,0,"inline.go:67",#[⟨6,.data⟩],none⟩) (v:=.pointer (some ⟨b,3,none⟩)) rfl (fun W ⟨hs1,hs2,hs3,hs4⟩=>by go_simp) hSd ?_
   simp only [Act.put,zsA,zsZ,zsS]
   refine tkH 8 (oi:=⟨some 20,.load 9 (.tmp 19),9,"inline.go:67",#[⟨7,.data⟩],none⟩) (v:=ug x) rfl (fun W ⟨hs1,hs2,hs3,hs4⟩=>by go_simp) hSd ?_
   simp only [Act.put,zsA,zsZ,zsS]
   refine tkH 9 (oi:=⟨some 21,.binOp .eql 9 (.tmp 15) (.tmp 20) 9,4,"inline.go:67",#[⟨3,.data⟩,⟨8,.data⟩],none⟩) (v:=.bool true) rfl (fun W ⟨hs1,hs2,hs3,hs4⟩=>by go_simp) hSd ?_
   simp only [Act.put,zsA,zsZ,zsS]
   refine tkH 10 (oi:=⟨some 22,.move (.tmp 21),4,"inline.go:67",#[⟨9,.data⟩],none⟩) (v:=.bool true) rfl (fun W ⟨hs1,hs2,hs3,hs4⟩=>by go_simp) hSd ?_
   simp only [Act.put,zsA,zsZ,zsS]
   refine tkH 11 (oi:=⟨some 23,.load 136 (.tmp 1),136,"inline.go:67",#[⟨10,.guard⟩],some (10,true)⟩) (v:=.pointer (some ⟨b,0,none⟩)) rfl (fun W ⟨hs1,hs2,hs3,hs4⟩=>by go_simp) hSd ?_
   simp only [Act.put,zsA,zsZ,zsS]
   refine tkH 12 (oi:=⟨some 24,.nilCheck (.tmp 23),0,"inline.go:67",#[⟨11,.data⟩,⟨10,.guard⟩],some (10,true)⟩) (v:=.pointer (some ⟨b,0,none⟩)) rfl (fun W ⟨hs1,hs2,hs3,hs4⟩=>by go_simp) hSd ?_
   simp only [Act.put,zsA,zsZ,zsS]
   refine tkH 13 (oi:=⟨some 25,.fieldAddr 140 (.tmp 24) 3,0,"inline.go:67",#[⟨12,.data⟩,⟨10,.guard⟩],some (10,true)⟩) (v:=.pointer (some ⟨b,5,none⟩)) rfl (fun W ⟨hs1,hs2,hs3,hs4⟩=>by go_simp) hSd ?_
   simp only [Act.put,zsA,zsZ,zsS]
   refine tkH 14 (oi:=⟨some 26,.load 68 (.tmp 25),68,"inline.go:67",#[⟨13,.data⟩,⟨10,.guard⟩],some (10,true)⟩) (v:=.iface T2 (.pointer (some ⟨m2,0,none⟩))) rfl (fun W ⟨hs1,hs2,hs3,hs4⟩=>by go_simp) hSd ?_
   simp only [Act.put,zsA,zsZ,zsS]
   refine tkH 15 (oi:=⟨some 27,.move (.tmp 4),184,"inline.go:67",#[⟨10,.guard⟩],some (10,true)⟩) (v:=.pointer a) rfl (fun W ⟨hs1,hs2,hs3,hs4⟩=>by go_simp) hSd ?_
   simp only [Act.put,zsA,zsZ,zsS]
   refine wpAnyH_ready (rs:=[16]) (by kernel_rfl) (by simp) ?_
   refine AllReadyH.cons (o:=⟨some 28,.call ⟨.value (.func 113),#[.tmp 26,.tmp 27],#[68,184]⟩,4,"inline.go:67",#[⟨14,.data⟩,⟨15,.data⟩,⟨10,.chain⟩,⟨10,.guard⟩],some (10,true)⟩) rfl (fun K hK => ?_) AllReadyH.nil
   go_simp
   refine (uh HBF _ (zac (zab _))).mono ?_
   rintro e1 X2 ⟨rfl,hg2⟩
   have G2:=bV (zaa (zac (zab X)) hg2)
   refine hK.out _ _ (uh CE _ G2.out) (fun hSd => ?_)
   clear hK K hg2
   refine tkH 17 (oi:=⟨some 29,.pick (.tmp 22) (.tmp 28) (.const (.bool false)),4,"inline.go:67",#[⟨10,.data⟩,⟨16,.data⟩],none⟩) (v:=.bool bl) rfl (fun W hSW=>by go_simp) hSd ?_
   simp only [Act.put,zsA,zsZ,zsS]
   refine wpAnyH_done (by kernel_rfl) ⟨rfl,?_⟩ _
   have rX2:=zbG G2.out (uh HR)
   obtain ⟨cr,fr⟩:=zag rX2
   cases bl with
   | true =>
    clear good
    gi_wp2_with fail
    exact ⟨za7 (zax G2.out) (za8 _ _ _),rfl,pre,_,rfl,uh HP,uh HC,Set1.zer (zaa (uh HG) G2.out) rX2 _⟩
   | false =>
    have GD:=good (uh HC)
    clear good
    gi_wp2_with fail
    exact GD.out _ G2.out
  ·have e1:(z.tx==x)=false:=by simpa using h1
   have hc:capD x LD z=false:=by simp [capD,h1]
   have GD:=good hc
   clear h1 hc good HBF
   gi_wp2_with fail
   refine zd1 lr (fun W=>W.cell? ⟨z.nb,2,none⟩=some (ug z.tx)/\W.cell? ⟨w.heap.size,0,none⟩=some (.pointer (some ⟨b,0,none⟩))/\W.cell? ⟨b,3,none⟩=some (ug x)/\W.cell? ⟨b,5,none⟩=some (.iface T2 (.pointer (some ⟨m2,0,none⟩)))) hmx (by kernel_rfl) (uh CE _ (zac (zab _))) ?_
   intro hSd
   refine tkH 0 (oi:=⟨some 12,.move (.tmp 3),83,"inline.go:67",#[],none⟩) (v:=.pointer (some ⟨z.nb,0,none⟩)) rfl (fun W ⟨hs1,hs2,hs3,hs4⟩=>by go_simp) hSd ?_
   simp only [Act.put,zsA,zsZ,zsS]
   refine tkH 1 (oi:=⟨some 13,.nilCheck (.tmp 12),0,"inline.go:67",#[⟨0,.data⟩],none⟩) (v:=.pointer (some ⟨z.nb,0,none⟩)) rfl (fun W ⟨hs1,hs2,hs3,hs4⟩=>by go_simp) hSd ?_
   simp only [Act.put,zsA,zsZ,zsS]
   refine tkH 2 (oi:=⟨some 14,.fieldAddr 87 (.tmp 13) 1,0,"inline.go:67",#[⟨1,.data⟩],none⟩) (v:=.pointer (some ⟨z.nb,2,none⟩)) rfl (fun W ⟨hs1,hs2,hs3,hs4⟩=>by go_simp) hSd ?_
   simp only [Act.put,zsA,zsZ,zsS]
   refine tkH 3 (oi:=⟨some 15,.load 9 (.tmp 14),9,"inline.go:67",#[⟨2,.data⟩],none⟩) (v:=ug z.tx) rfl (fun W ⟨hs1,hs2,hs3,hs4⟩=>by go_simp) hSd ?_
   simp only [Act.put,zsA,zsZ,zsS]
   refine tkH 4 (oi:=⟨some 16,.load 136 (.tmp 1),136,"inline.go:67",#[],none⟩) (v:=.pointer (some ⟨b,0,none⟩)) rfl (fun W ⟨hs1,hs2,hs3,hs4⟩=>by go_simp) hSd ?_
   simp only [Act.put,zsA,zsZ,zsS]
   refine tkH 5 (oi:=⟨some 17,.nilCheck (.tmp 16),0,"inline.go:67",#[⟨4,.data⟩],none⟩) (v:=.pointer (some ⟨b,0,none⟩)) rfl (fun W ⟨hs1,hs2,hs3,hs4⟩=>by go_simp) hSd ?_
   simp only [Act.put,zsA,zsZ,zsS]
   refine tkH 6 (oi:=⟨some 18,.fieldAddr 140 (.tmp 17) 2,0,"inline.go:67",#[⟨5,.data⟩],none⟩) (v:=.pointer (some ⟨b,3,none⟩)) rfl (fun W ⟨hs1,hs2,hs3,hs4⟩=>by go_simp) hSd ?_
   simp only [Act.put,zsA,zsZ,zsS]
   refine tkH 7 (oi:=⟨some 19,.fieldAddr 89 (.tmp 18) 0,0,"inline.go:67",#[⟨6,.data⟩],none⟩) (v:=.pointer (some ⟨b,3,none⟩)) rfl (fun W ⟨hs1,hs2,hs3,hs4⟩=>by go_simp) hSd ?_
   simp only [Act.put,zsA,zsZ,zsS]
   refine tkH 8 (oi:=⟨some 20,.load 9 (.tmp 19),9,"inline.go:67",#[⟨7,.data⟩],none⟩) (v:=ug x) rfl (fun W ⟨hs1,hs2,hs3,hs4⟩=>by go_simp) hSd ?_
   simp only [Act.put,zsA,zsZ,zsS]
   refine tkH 9 (oi:=⟨some 21,.binOp .eql 9 (.tmp 15) (.tmp 20) 9,4,"inline.go:67",#[⟨3,.data⟩,⟨8,.data⟩],none⟩) (v:=.bool false) rfl (fun W ⟨hs1,hs2,hs3,hs4⟩=>by go_simp) hSd ?_
   simp only [Act.put,zsA,zsZ,zsS]
   refine tkH 10 (oi:=⟨some 22,.move (.tmp 21),4,"inline.go:67",#[⟨9,.data⟩],none⟩) (v:=.bool false) rfl (fun W ⟨hs1,hs2,hs3,hs4⟩=>by go_simp) hSd ?_
   simp only [Act.put,zsA,zsZ,zsS]
   refine tkU 11 (oi:=⟨some 23,.load 136 (.tmp 1),136,"inline.go:67",#[⟨10,.guard⟩],some (10,true)⟩) rfl hSd ?_
   simp only [Act.put,zsA,zsZ,zsS]
   refine tkU 12 (oi:=⟨some 24,.nilCheck (.tmp 23),0,"inline.go:67",#[⟨11,.data⟩,⟨10,.guard⟩],some (10,true)⟩) rfl hSd ?_
   simp only [Act.put,zsA,zsZ,zsS]
   refine tkU 13 (oi:=⟨some 25,.fieldAddr 140 (.tmp 24) 3,0,"inline.go:67",#[⟨12,.data⟩,⟨10,.guard⟩],some (10,true)⟩) rfl hSd ?_
   simp only [Act.put,zsA,zsZ,zsS]
   refine tkU 14 (oi:=⟨some 26,.load 68 (.tmp 25),68,"inline.go:67",#[⟨13,.data⟩,⟨10,.guard⟩],some (10,true)⟩) rfl hSd ?_
   simp only [Act.put,zsA,zsZ,zsS]
   refine tkU 15 (oi:=⟨some 27,.move (.tmp 4),184,"inline.go:67",#[⟨10,.guard⟩],some (10,true)⟩) rfl hSd ?_
   simp only [Act.put,zsA,zsZ,zsS]
   refine tkU 16 (oi:=⟨some 28,.call ⟨.value (.func 113),#[.tmp 26,.tmp 27],#[68,184]⟩,4,"inline.go:67",#[⟨14,.data⟩,⟨15,.data⟩,⟨10,.chain⟩,⟨10,.guard⟩],some (10,true)⟩) rfl hSd ?_
   simp only [Act.put,zsA,zsZ,zsS]
   refine tkH 17 (oi:=⟨some 29,.pick (.tmp 22) (.tmp 28) (.const (.bool false)),4,"inline.go:67",#[⟨10,.data⟩,⟨16,.data⟩],none⟩) (v:=.bool false) rfl (fun W ⟨hs1,hs2,hs3,hs4⟩=>by go_simp) hSd ?_
   simp only [Act.put,zsA,zsZ,zsS]
   refine wpAnyH_done (by kernel_rfl) ⟨rfl,?_⟩ _
   gi_wp2_with fail
   exact GD.out _ (zac (zab _))
 case done =>
  rintro D xs X hD hxs ⟨hpre,hg⟩ hK
  have rX:=zbG hg r1
  obtain ⟨cr,fr⟩:=zag rX
  gi_wp2_with fail
  have st:=Set1.zer hg rX (.bool false)
  have hK2:(X.setCell ⟨w.heap.size+1,0,none⟩ (.bool false)).heap[D]? = some (.deferred (some [])):=(za8 (B:=0) X _ _).same D _ (Nat.zero_le _) hK rfl
  refine ⟨by simp,.inl ⟨_,_,rfl,run_takeDeferred hK2,?_⟩⟩
  have st':=Set1.own (β := Unit) (znL _) (by omega) () _ _ (some D) st (grownBy_putObj' _ D (.deferred none)) (fun r e=>by cases e; exact ⟨by omega,_,hK2,rfl⟩)
  obtain ⟨e0,_⟩:=zag st'.res
  refine ⟨.bool false,by simp [results,Tryz.results62,go_sem,e0],?_,?_⟩
  ·have:(za5 LB).any (capD x LD)=false:=by
    rw [List.any_eq_false]
    intro z hz
    rw [<-hxs] at hz
    obtain ⟨y,hy,rfl⟩:=List.mem_map.1 hz
    rw [hpre y hy]
    simp
   rw [this]
  ·refine ⟨st'.os.trans g1.os,st'.tape.trans g1.tape,st'.output.trans g1.output,by have:=st'.size; omega,fun k hk _=>(st'.old k (by omega) (by omega)).trans (g1.block k hk (by simp))⟩
 case stop =>
  rintro D c pre X hD hpre ⟨rfl,init,z,h1,h2,h3,h4⟩ hK
  gi_wp2_with fail
  refine ⟨by simp,.inl ⟨_,_,rfl,run_takeDeferred hK,?_⟩⟩
  have st':=Set1.own (β := Unit) (znL _) (by omega) () _ _ (some D) h4 (grownBy_putObj' _ D (.deferred none)) (fun r e=>by cases e; exact ⟨by omega,_,hK,rfl⟩)
  obtain ⟨e0,_⟩:=zag st'.res
  refine ⟨.bool true,by simp [results,Tryz.results62,go_sem,e0],?_,?_⟩
  ·have:(za5 LB).any (capD x LD)=true:=by
    rw [List.any_eq_true]
    exact ⟨z.1.1,hpre.subset (by rw [h1]; simp),h3⟩
   rw [this]
  ·refine ⟨st'.os.trans g1.os,st'.tape.trans g1.tape,st'.output.trans g1.output,by have:=st'.size; omega,fun k hk _=>(st'.old k (by omega) (by omega)).trans (g1.block k hk (by simp))⟩
open Go.RowKit Go.Shelf
attribute [local go_sem] Oper.semAt_some
theorem ybt {w:World} {hi b nm:Nat} {n:Tw.T} {L:List NB} {cN:Array Value} {cL:Array Value} (hb:w.heap[b]? = some (.cells cL 140 (0,0))) (hn:NL w hi n (.iface 136 (.pointer (some ⟨b,0,none⟩))) .nil L) (hnm:w.heap[nm]? = some (.cells cN 87 (0,0))) :
  Calls Tryz.prog 184 #[.pointer (some ⟨nm,0,none⟩),.pointer (some ⟨b,0,none⟩)] w fun r w'=>r = .returned (.bool ((zbq ⟨b,3,none⟩ L).any fun y=>decide (y.nb=nm)))/\w.grownBy w' none:=by
 refine (callsIn_wide (n:=3)).1 ?_
 refine callsIn_of_wp_marks Tryz.func184 rfl trivial ?_
 simp only [Tryz.ntmps184,List.size_toArray,List.length_cons,List.length_nil,Nat.reduceAdd,Nat.reduceSub,Array.replicate_succ,Array.replicate_zero,List.push_toArray,List.append_toArray,List.nil_append,List.cons_append]
 obtain ⟨W0,hW0⟩:∃W0,(w.alloc (.cells #[.pointer (some ⟨nm,0,none⟩)] 83)).alloc (.cells #[.bool false] 4)=W0:=⟨_,rfl⟩
 have G0:w.grownBy W0 none:=by rw [<-hW0]; exact zae (zae (zab _) _) _
 have z0:W0.heap.size=w.heap.size+2:=by rw [<-hW0]; simp
 have l0:W0.heap[w.heap.size]? = some (.cells #[.pointer (some ⟨nm,0,none⟩)] 83 (0,0)):=by rw [<-hW0]; exact (zep w _ _).2
 have r0:W0.heap[w.heap.size+1]? = some (.cells #[.bool false] 4 (0,0)):=by rw [<-hW0]; exact (zep w _ _).1
 gi_wp2_with fail
 refine ⟨trivial,?_⟩
 refine (callsIn_wide.2 (znb W0 ⟨_,_,rfl⟩ ⟨b,3,none⟩)).mono ?_
 rintro e1 w3 ⟨rfl,rfl⟩
 gi_wp2_with fail
 obtain ⟨W1,hW1⟩:∃W1,(W0.alloc (.cells #[.iface 136 (.pointer (some ⟨b,0,none⟩))] 68)).alloc (.cells #[.pointer (some ⟨b,3,none⟩)] 79)=W1:=⟨_,rfl⟩
 have G1:W0.grownBy W1 none:=by rw [<-hW1]; exact zae (zae (zab _) _) _
 have z1:W1.heap.size=w.heap.size+4:=by rw [<-hW1]; simp; omega
 have r4:W1.heap[W0.heap.size]? = some (.cells #[.iface 136 (.pointer (some ⟨b,0,none⟩))] 68 (0,0)):=by rw [<-hW1]; exact (zep W0 _ _).2
 have s4:W1.heap[W0.heap.size+1]? = some (.cells #[.pointer (some ⟨b,3,none⟩)] 79 (0,0)):=by rw [<-hW1]; exact (zep W0 _ _).1
 have l1:=zbG G1 l0
 have r1:=zbG G1 r0
 have g1:=zaa G0 G1
 have n1:=zbG g1 hnm
 have b1:=zbG g1 hb
 have hn1:=hn.kp (Kp.of_grown g1)
 have blk1:BinBlk W1 ⟨b,3,none⟩:=⟨_,_,b1,by decide⟩
 have hcells:=fun z hz=>NL.block hn1 z hz
 have HCE:=bV hcells
 rw [z0] at r4 s4
 rw [hW1]
 clear hW0 hW1 G0 G1 l0 r0 hn hb hnm hcells b1
 refine zhp (p:=12) (d1:=5) rfl (enters_of Tryz.func59 (by kernel_rfl) rfl) (zti r4 s4 hn1 blk1) (fun h k=>h.trans k) zlj (Below.refl _ _)
  (fun pre X=>(∀z∈pre,decide (z.1.nb=nm)=false)/\W1.grownBy X none)
  (fun c pre X=>c = .ret/\∃init z,pre=init ++ [z]/\(∀z∈init,decide (z.1.nb=nm)=false)/\decide (z.1.nb=nm)=true/\Set1 W1 (w.heap.size+1) (.bool true) 4 X) ?own ?ownx ⟨by simp,zab _⟩ ?assign ?body ?done ?stop
 case own =>
  rintro s X Y row ⟨h1,h2⟩ hg hr
  exact ⟨h1,zc1 (β := Unit) W1 (znL _) () X Y row h2 hg hr⟩
 case ownx =>
  rintro c s X Y row ⟨h0,init,x,h1,h2,h3,h4⟩ hg hr
  exact ⟨h0,init,x,h1,h2,h3,Set1.own (β := Unit) (znL _) (by omega) () X Y row h4 hg hr⟩
 case assign =>
  intro l x X K hK
  simp only [zsA,zsZ,zsS] at hK ⊢
  gi_wp2
  exact hK
 case body =>
  rintro lr pre ⟨z,hz⟩ X hlr hrec ⟨hpre,hgX⟩ hlt
  have zX:=zbG hgX (uh HCE z (List.mem_filter.1 hz).1)
  have nX:=zbG hgX n1
  have lX:=zbG hgX l1
  have rX:=zbG hgX r1
  have cl:=(zag lX).1
  obtain ⟨cr,fr⟩:=zag rX
  have HR:=bV rX
  have HP:=bV hpre
  have HG:=bV hgX
  simp only [zsA,zsZ,zsS]
  by_cases hk:z.nb=nm
  ·have hq:=zna X ydc ydd ⟨nm,0,none⟩
   rw [hk]
   clear hgX hpre lX rX nX zX
   gi_wp2
   exact ⟨za8 _ _ _,rfl,pre,_,rfl,uh HP,by simp [hk],Set1.zer (uh HG) (uh HR) _⟩
  ·have hq:=zlu X ydc ydd (by decide) (a:=⟨z.nb,0,none⟩) (b:=⟨nm,0,none⟩) (fun e=>hk (by cases e; rfl)) zX nX
   clear hgX hpre lX rX nX zX
   gi_wp2
   exact ⟨KeepsFrom.refl _ _,Kp.refl _,fun y hy=>(by
    rcases zmA.1 hy with hy | hy
    ·exact uh HP y hy
    ·simp only [List.mem_singleton] at hy
     subst hy
     simp [hk]),uh HG⟩
 case done =>
  rintro D xs X hD hxs ⟨hpre,hg⟩ hK
  have rX:=zbG hg r1
  obtain ⟨cr,fr⟩:=zag rX
  gi_wp2_with fail
  have st:=Set1.zer hg rX (.bool false)
  have hK2:(X.setCell ⟨w.heap.size+1,0,none⟩ (.bool false)).heap[D]? = some (.deferred (some [])):=(za8 (B:=0) X _ _).same D _ (Nat.zero_le _) hK rfl
  refine ⟨by simp,.inl ⟨_,_,rfl,run_takeDeferred hK2,?_⟩⟩
  have st':=Set1.own (β := Unit) (znL _) (by omega) () _ _ (some D) st (grownBy_putObj' _ D (.deferred none)) (fun r e=>by cases e; exact ⟨by omega,_,hK2,rfl⟩)
  obtain ⟨e0,_⟩:=zag st'.res
  refine ⟨.bool false,by simp [results,Tryz.results184,go_sem,e0],?_,?_⟩
  ·have:((zbq ⟨b,3,none⟩ L).any fun y=>decide (y.nb=nm))=false:=by
    rw [List.any_eq_false]
    intro z hz
    rw [<-hxs] at hz
    obtain ⟨y,hy,rfl⟩:=List.mem_map.1 hz
    rw [hpre y hy]
    simp
   rw [this]
  ·refine ⟨st'.os.trans g1.os,st'.tape.trans g1.tape,st'.output.trans g1.output,by have:=st'.size; omega,fun k hk _=>(st'.old k (by omega) (by omega)).trans (g1.block k hk (by simp))⟩
 case stop =>
  rintro D c pre X hD hpre ⟨rfl,init,z,h1,h2,h3,h4⟩ hK
  gi_wp2_with fail
  refine ⟨by simp,.inl ⟨_,_,rfl,run_takeDeferred hK,?_⟩⟩
  have st':=Set1.own (β := Unit) (znL _) (by omega) () _ _ (some D) h4 (grownBy_putObj' _ D (.deferred none)) (fun r e=>by cases e; exact ⟨by omega,_,hK,rfl⟩)
  obtain ⟨e0,_⟩:=zag st'.res
  refine ⟨.bool true,by simp [results,Tryz.results184,go_sem,e0],?_,?_⟩
  ·have:((zbq ⟨b,3,none⟩ L).any fun y=>decide (y.nb=nm))=true:=by
    rw [List.any_eq_true]
    exact ⟨z.1,hpre.subset (by rw [h1]; simp),h3⟩
   rw [this]
  ·refine ⟨st'.os.trans g1.os,st'.tape.trans g1.tape,st'.output.trans g1.output,by have:=st'.size; omega,fun k hk _=>(st'.old k (by omega) (by omega)).trans (g1.block k hk (by simp))⟩
end Go.Proofs.YtckhafpejefbbaaGreatDoor
