/- The library contracts that the walks call, laid over this dump. -/
import Derived.Test.YthlhecfcnfjecaaGreatDoorA0
import Derived.Shelf.Strings.OnBuilder
import Derived.Shelf.Small.Strs
import Derived.Shelf.Small.Wraps
import Derived.Shelf.Utf8.RuneCount
import Derived.Shelf.Strconv.Itoa4
import Derived.Shelf.Strconv.ErrVarParseInt
import Derived.Shelf.Unicode.Decode
import Derived.Shelf.Strings.RuneCount
import Derived.Shelf.Unicode.DecodeAny
import Derived.Shelf.Slices.Clone
import Derived.Shelf.Slices.SearchI
import Derived.Shelf.SlicesE.Clone
import Derived.Test.YthlhecfcnfjecaaGreatDoorProg
import Derived.Shelf.SlSortCmp.NoneTotal
set_option linter.all false
set_option maxRecDepth 100000
namespace Go.Proofs
open _root_.Go.Proofs.Tryz
open Go.Shelf
theorem rR{p:Prop}(h:p:=by kernel_rfl):p:=h
theorem kR{α:Type}{a c:α}{o:Option α}(h:o=some a)(e:a=c:=by kernel_rfl):o=some c:=h.trans (congrArg some e)
def laysC174_ren:Go.Shelf.Ren:=⟨fun|174=>244|247=>281|245=>282|287=>300|279=>301|280=>302|281=>303|282=>304|321=>313|322=>314|316=>52|171=>316|205=>315|243=>322|246=>262|283=>287|284=>288|285=>289|286=>290|129=>274|317=>305|318=>306|319=>307|320=>308|337=>317|338=>318|n=>n,fun|9=>9|3=>3|2=>2|75=>362|85=>363|4=>4|167=>437|5=>5|53=>392|175=>438|46=>313|168=>440|37=>193|0=>0|210=>451|21=>21|127=>194|145=>458|143=>456|171=>416|173=>418|212=>444|51=>390|20=>20|213=>445|232=>459|233=>460|80=>426|n=>n,fun|15=>7|16=>8|17=>6|18=>9|19=>10|n=>n⟩
def laysC174:Go.Proofs.LaysC.n174 prog laysC174_ren:=⟨⟨⟨rR,kR func274,kR func316,kR func244,kR func315,kR func322,kR func282,kR func262,kR func281,kR func301,kR func302,kR func303,kR func304,kR func287,kR func288,kR func289,kR func290,kR func300,kR func52,kR func305,kR func306,kR func307,kR func308,kR func313,kR func314,kR func317,kR func318,underlying0,isAgg0,sizeOf0,zeroValue0,underlying2,isAgg2,sizeOf2,zeroValue2,underlying3,isAgg3,sizeOf3,zeroValue3,underlying4,isAgg4,sizeOf4,zeroValue4,underlying5,isAgg5,sizeOf5,zeroValue5,underlying9,isAgg9,sizeOf9,zeroValue9,underlying20,isAgg20,sizeOf20,zeroValue20,underlying21,isAgg21,sizeOf21,zeroValue21,underlying193,isAgg193,sizeOf193,zeroValue193,underlying313,isAgg313,sizeOf313,zeroValue313,underlying390,isAgg390,sizeOf390,zeroValue390,underlying392,isAgg392,sizeOf392,zeroValue392,underlying362,isAgg362,sizeOf362,zeroValue362,underlying363,isAgg363,sizeOf363,zeroValue363,underlying194,isAgg194,sizeOf194,zeroValue194,underlying456,isAgg456,sizeOf456,zeroValue456,underlying458,isAgg458,sizeOf458,zeroValue458,underlying437,isAgg437,sizeOf437,zeroValue437,underlying440,isAgg440,sizeOf440,zeroValue440,underlying416,isAgg416,sizeOf416,zeroValue416,underlying418,isAgg418,sizeOf418,zeroValue418,underlying438,isAgg438,sizeOf438,zeroValue438,underlying451,isAgg451,sizeOf451,zeroValue451,underlying444,isAgg444,sizeOf444,zeroValue444,underlying445,isAgg445,sizeOf445,underlying459,isAgg459,sizeOf459,zeroValue459,underlying460,isAgg460,sizeOf460,zeroValue460,rR,rR,rR,rR,rR⟩,underlying426,isAgg426,sizeOf426,zeroValue426,rR,rR,rR,rR,rR,rR,rR,rR,rR,rR,rR,rR,rR,rR,rR,rR,rR,rR,rR,rR,rR,rR,rR,rR,rR,rR,rR,rR,rR,rR,rR,rR⟩,rR,rR,rR,rR,rR,rR,rR,rR,rR,rR,rR,rR,rR,rR,rR,rR,rR,rR,rR,rR,rR,rR,rR,rR,rR,rR,rR,rR⟩
open Go.RowKit in
def strconv_ParseInt_10_at64_ok(s:ByteArray)(a:s.size<=9223372036854775806)(v:Int)(h:Lib.parseIntB 64 s.data.toList=.ok v)(w:World):
 Calls prog 244 #[.string s,.int .i64 10,.int .i64 64] w fun e b=>e=.returned (.tuple #[.int .i64 v,.nilIface])/\(b=w\/∃t,b=Lib.bytesWorld w 5 t):=Any.strconv_ParseInt_10_at64_ok laysC174 s a v h w
open Go.RowKit in
def strconv_ParseInt_10_at64_range(s:ByteArray)(b:s.size<=281474976710656)(h:Lib.parseIntB 64 s.data.toList=.range)(a:Value)(w:World)(g:w.cell? ⟨8,0,none⟩=some a)(c:a=.nilIface\/∃f i,a=.iface f i):
 Calls prog 244 #[.string s,.int .i64 10,.int .i64 64] w fun e d=>∃N,e=.returned (.tuple #[.int .i64 (Lib.intSat 64 s.data.toList),.iface 440 (.pointer (some ⟨N,0,none⟩))])/\w.heap.size<=N/\d.heap[N]?=some (.cells #[.string ⟨#[80,97,114,115,101,73,110,116]⟩,.string s,a] 451 (0,0))/\Below w.heap.size w d:=Any.strconv_ParseInt_10_at64_range laysC174 s b h a w g c
def lays197_ren:Go.Shelf.Ren:=⟨fun|197=>139|260=>189|n=>n,fun|9=>9|21=>21|3=>3|4=>4|5=>5|105=>251|119=>357|0=>0|46=>313|139=>360|138=>359|n=>n,fun|3=>1|4=>2|n=>n⟩
def lays197:Go.Proofs.Lays.n197 prog lays197_ren:=⟨rR,kR func139,kR func189,underlying0,isAgg0,sizeOf0,zeroValue0,underlying3,isAgg3,sizeOf3,zeroValue3,underlying4,isAgg4,sizeOf4,zeroValue4,underlying5,isAgg5,sizeOf5,zeroValue5,underlying9,isAgg9,sizeOf9,zeroValue9,underlying21,isAgg21,sizeOf21,zeroValue21,underlying313,isAgg313,sizeOf313,zeroValue313,underlying251,isAgg251,sizeOf251,zeroValue251,underlying357,isAgg357,sizeOf357,underlying359,isAgg359,sizeOf359,zeroValue359,underlying360,isAgg360,sizeOf360,zeroValue360,rR,rR⟩
open Go.RowKit Go.Lib in
def utf8_DecodeRuneInString(s:ByteArray)(w:World)(b:Lib.Utf8Tabs 1 2 w):
 Calls prog 139 #[.string s] w fun e a=>e=.returned (.tuple #[.int .i32 (Lib.decodeGo s).1,.int .i64 (Lib.decodeGo s).2])/\Below w.heap.size w a:=Any.utf8_DecodeRuneInString lays197 s w b
end Go.Proofs
namespace Go.Proofs
open _root_.Go.Proofs.Tryz
def lays156_ren:Go.Shelf.Ren:=⟨fun|156=>264|165=>291|166=>292|169=>293|240=>309|241=>310|276=>319|277=>320|n=>n,fun|31=>52|9=>9|3=>3|4=>4|0=>0|20=>20|72=>422|76=>424|70=>420|37=>193|75=>362|127=>194|164=>453|5=>5|80=>426|n=>n,fun|n=>n⟩
def lays156:Go.Proofs.Lays.n156 prog lays156_ren:=⟨rR,kR func264,kR func291,kR func292,kR func293,kR func309,kR func310,kR func319,kR func320,underlying0,isAgg0,sizeOf0,zeroValue0,underlying3,isAgg3,sizeOf3,zeroValue3,underlying4,isAgg4,sizeOf4,zeroValue4,underlying9,isAgg9,sizeOf9,zeroValue9,underlying20,isAgg20,sizeOf20,zeroValue20,underlying52,isAgg52,sizeOf52,zeroValue52,underlying193,isAgg193,sizeOf193,zeroValue193,underlying420,isAgg420,sizeOf420,zeroValue420,underlying422,isAgg422,sizeOf422,zeroValue422,underlying362,isAgg362,sizeOf362,zeroValue362,underlying424,isAgg424,sizeOf424,zeroValue424,underlying194,isAgg194,sizeOf194,zeroValue194,underlying453,isAgg453,sizeOf453,zeroValue453⟩
def Builder_Extra_156:Builder.Extra prog lays156_ren:={
 sizeBuilder:=by kernel_rfl
 liesBuilder:=by kernel_rfl
 t5:=underlying5
 a5:=isAgg5
 z5:=sizeOf5
 v5:=zeroValue5
 infoByte:=by kernel_rfl
 cellsByte:=by kernel_rfl
 sizeByte:=by kernel_rfl
 neB5:=by decide }
open Go.RowKit in
def strings_Join_none(a:Option Addr)(c:Nat)(b:ByteArray)(w:World):
 Calls prog 264 #[.slice a 0 c,.string b] w fun e d=>e=.returned (.string ⟨#[]⟩)/\d=w:=Any.strings_Join_none lays156 Builder_Extra_156 a c b w
open Go.RowKit in
def strings_Join(bk o c:Nat)(d:List ByteArray)(a:ByteArray)(w:World)(b:∀(j:Nat) x,d[j]?=some x->w.cell? ⟨bk,o+j,none⟩=some (.string x))(h:bk<w.heap.size)(k:d.length<=140737488355328)(f:d.length<=c)(g:(Lib.join (d.map (·.data.toList)) a.data.toList).length<=140737488355328):
 Calls prog 264 #[.slice (some ⟨bk,o,none⟩) d.length c,.string a] w fun e i=>e=.returned (.string ⟨(Lib.join (d.map (·.data.toList)) a.data.toList).toArray⟩)/\Below w.heap.size w i:=Any.strings_Join lays156 Builder_Extra_156 bk o c d a w b h k f g
def lays106_ren:Go.Shelf.Ren:=⟨fun|106=>174|213=>228|265=>275|n=>n,fun|9=>9|3=>3|n=>n,fun|n=>n⟩
def lays106:Go.Proofs.Lays.n106 prog lays106_ren:=⟨rR,kR func174,kR func228,kR func275,underlying3,isAgg3,sizeOf3,zeroValue3,underlying9,isAgg9,sizeOf9,zeroValue9⟩
open Go.RowKit in
def strings_Compare(a b:ByteArray)(w:World):
 Calls prog 174 #[.string a,.string b] w fun e c=>e=.returned (.int .i64 (Lib.compareBytes a.data.toList b.data.toList))/\c=w:=Any.strings_Compare lays106 a b w
def lays121_ren:Go.Shelf.Ren:=⟨fun|121=>224|214=>263|n=>n,fun|4=>4|9=>9|n=>n,fun|n=>n⟩
def lays121:Go.Proofs.Lays.n121 prog lays121_ren:=⟨rR,kR func224,kR func263,underlying4,isAgg4,sizeOf4,zeroValue4,underlying9,isAgg9,sizeOf9,zeroValue9⟩
open Go.RowKit in
def strconv_FormatBool(b:Bool)(w:World):
 Calls prog 224 #[.bool b] w fun e a=>e=.returned (.string ⟨(Lib.formatBool b).toArray⟩)/\a=w:=Any.strconv_FormatBool lays121 b w
def lays195_ren:Go.Shelf.Ren:=⟨fun|195=>373|n=>n,fun|9=>9|3=>3|0=>0|4=>4|n=>n,fun|n=>n⟩
def lays195:Go.Proofs.Lays.n195 prog lays195_ren:=⟨rR,kR func373,underlying0,isAgg0,sizeOf0,zeroValue0,underlying3,isAgg3,sizeOf3,zeroValue3,underlying4,isAgg4,sizeOf4,zeroValue4,underlying9,isAgg9,sizeOf9,zeroValue9⟩
open Go.RowKit in
def utf8_RuneCountInString(s:ByteArray)(w:World)(c:s.size<9223372036854775807):
 Calls prog 373 #[.string s] w fun e b=>e=.returned (.int .i64 (Lib.runeCount s))/\∃a,b=w.iter s a:=Any.utf8_RuneCountInString lays195 s w c
def laysM173_ren:Go.Shelf.Ren:=⟨fun|173=>223|246=>262|283=>287|284=>288|285=>289|286=>290|129=>274|317=>305|318=>306|319=>307|320=>308|337=>317|338=>318|n=>n,fun|2=>2|3=>3|9=>9|4=>4|171=>416|0=>0|53=>392|37=>193|5=>5|173=>418|212=>444|51=>390|20=>20|213=>445|46=>313|232=>459|233=>460|n=>n,fun|17=>6|18=>9|19=>10|n=>n⟩
def laysM173:Go.Proofs.LaysM.n173 prog laysM173_ren:=⟨⟨rR,kR func274,kR func223,kR func262,kR func287,kR func288,kR func289,kR func290,kR func305,kR func306,kR func307,kR func308,kR func317,kR func318,underlying0,isAgg0,sizeOf0,zeroValue0,underlying2,isAgg2,sizeOf2,zeroValue2,underlying3,isAgg3,sizeOf3,zeroValue3,underlying4,isAgg4,sizeOf4,zeroValue4,underlying5,isAgg5,sizeOf5,zeroValue5,underlying9,isAgg9,sizeOf9,zeroValue9,underlying20,isAgg20,sizeOf20,zeroValue20,underlying193,isAgg193,sizeOf193,zeroValue193,underlying313,isAgg313,sizeOf313,zeroValue313,underlying390,isAgg390,sizeOf390,zeroValue390,underlying392,isAgg392,sizeOf392,zeroValue392,underlying416,isAgg416,sizeOf416,zeroValue416,underlying418,isAgg418,sizeOf418,zeroValue418,underlying444,isAgg444,sizeOf444,zeroValue444,underlying445,isAgg445,sizeOf445,underlying459,isAgg459,sizeOf459,zeroValue459,underlying460,isAgg460,sizeOf460,zeroValue460,rR,rR,rR⟩,rR,rR,rR,rR,rR,rR,rR,rR,rR,rR,rR,rR,rR,rR,rR,rR,rR,rR,rR⟩
open Go.RowKit Go.Sort Go.Lib in
def strconv_FormatInt_10(n:Int)(f: -9223372036854775808<=n)(d:n<=9223372036854775807)(w:World)(a:Lib.TabIs prog w "internal/strconv.uint64pow10" .u64 Lib.pow10Tab):
 Calls prog 223 #[.int .i64 n,.int .i64 10] w fun e b=>e=.returned (.string ⟨(Lib.itoa n).toArray⟩)/\∃k c,b=grow (w.drewN k) c:=Any.strconv_FormatInt_10 laysM173 n f d w a
end Go.Proofs
namespace Go.Proofs
open _root_.Go.Proofs.Tryz
def laysM316_ren:Go.Shelf.Ren:=⟨fun|316=>52|n=>n,fun|9=>9|3=>3|4=>4|37=>193|0=>0|127=>194|5=>5|n=>n,fun|n=>n⟩
def laysM316:Go.Proofs.LaysM.n316 prog laysM316_ren:=⟨⟨rR,kR func52,underlying0,isAgg0,sizeOf0,zeroValue0,underlying3,isAgg3,sizeOf3,zeroValue3,underlying4,isAgg4,sizeOf4,zeroValue4,underlying9,isAgg9,sizeOf9,zeroValue9,underlying193,isAgg193,sizeOf193,zeroValue193,underlying194,isAgg194,sizeOf194,zeroValue194⟩,underlying5,isAgg5,sizeOf5,zeroValue5,rR,rR,rR,rR,rR,rR,rR⟩
open Go.RowKit in
def stringslite_Clone(s:ByteArray)(w:World)(a:s.size<=281474976710656):
 Calls prog 52 #[.string s] w fun e b=>e=.returned (.string s)/\Below w.heap.size w b:=Any.stringslite_Clone laysM316 s w a
end Go.Proofs
namespace Go.Proofs
open _root_.Go.Proofs.Tryz
def sortL_ren:Go.Shelf.Ren:=⟨fun|6=>172|15=>227|14=>226|28=>273|29=>274|20=>265|21=>266|22=>267|23=>268|24=>269|25=>270|26=>271|27=>272|46=>294|47=>295|48=>296|49=>297|50=>298|57=>311|n=>n,fun|22=>73|24=>137|25=>297|3=>3|39=>313|0=>0|53=>390|55=>392|4=>4|46=>384|45=>383|50=>187|5=>5|9=>9|66=>427|70=>431|76=>446|77=>447|n=>n,fun|n=>n⟩
def sortL:Go.Proofs.SlLaysF0.n6 prog sortL_ren:=⟨rR,⟨f172.name,by decide,func172.trans (congrArg some (by kernel_rfl))⟩,⟨f226.name,by decide,func226.trans (congrArg some (by kernel_rfl))⟩,kR func227,⟨Tryz.f265.name,by decide,func265.trans (congrArg some (by kernel_rfl))⟩,⟨f266.name,by decide,func266.trans (congrArg some (by kernel_rfl))⟩,⟨f267.name,by decide,func267.trans (congrArg some (by kernel_rfl))⟩,⟨f268.name,by decide,func268.trans (congrArg some (by kernel_rfl))⟩,⟨f269.name,by decide,func269.trans (congrArg some (by kernel_rfl))⟩,⟨f270.name,by decide,func270.trans (congrArg some (by kernel_rfl))⟩,⟨f271.name,by decide,func271.trans (congrArg some (by kernel_rfl))⟩,⟨f272.name,by decide,func272.trans (congrArg some (by kernel_rfl))⟩,kR func273,kR func274,⟨f294.name,by decide,func294.trans (congrArg some (by kernel_rfl))⟩,kR func295,kR func296,⟨f297.name,by decide,func297.trans (congrArg some (by kernel_rfl))⟩,⟨f298.name,by decide,func298.trans (congrArg some (by kernel_rfl))⟩,⟨f311.name,by decide,func311.trans (congrArg some (by kernel_rfl))⟩,underlying0,isAgg0,sizeOf0,zeroValue0,underlying3,isAgg3,sizeOf3,zeroValue3,underlying4,isAgg4,sizeOf4,zeroValue4,underlying5,isAgg5,sizeOf5,zeroValue5,underlying9,isAgg9,sizeOf9,zeroValue9,underlying73,isAgg73,sizeOf73,zeroValue73,underlying297,isAgg297,sizeOf297,zeroValue297,underlying313,isAgg313,sizeOf313,zeroValue313,underlying383,isAgg383,sizeOf383,zeroValue383,underlying384,isAgg384,sizeOf384,zeroValue384,underlying187,isAgg187,sizeOf187,zeroValue187,underlying390,isAgg390,sizeOf390,zeroValue390,underlying392,isAgg392,sizeOf392,zeroValue392,underlying427,isAgg427,sizeOf427,zeroValue427,underlying431,isAgg431,sizeOf431,zeroValue431,underlying446,isAgg446,sizeOf446,zeroValue446,underlying447,isAgg447,sizeOf447,zeroValue447⟩
end Go.Proofs
