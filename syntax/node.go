package syntax

// Node is a statement or an expression of a program; what works on one chooses
// by its type.
type Node interface {
	Line() int // the line of its first token
}

// Place gives a node its line.
type Place struct {
	line int
}

// Line tells the line of the place.
func (p Place) Line() int { return p.line }

// Name is a name at the place where it stands.
type Name struct {
	Place
	Text string
}

// Program is the functions of a source, in its order.
type Program []Function

// Function is a function of a source. It is no Node: nothing has to be chosen
// where one stands.
type Function struct {
	Name       Name
	Parameters []Name
	Body       []Node
}

// The statements. A Call is one too.
type (
	// Declare is a var statement.
	Declare struct {
		Place
		Name  Name
		Value Node
	}
	// Assign begins with the name of its variable, and so takes its line.
	Assign struct {
		Name
		Indices []Node
		Value   Node
	}
	// If has an empty Else where the source has none: that does the same.
	If struct {
		Place
		Condition  Node
		Then, Else []Node
	}
	// While is a loop.
	While struct {
		Place
		Condition Node
		Body      []Node
	}
	// Return always has a value: without one it gives the Int 0.
	Return struct {
		Place
		Value Node
	}
	// Print is a print statement.
	Print struct {
		Place
		Value Node
	}
)

// The expressions.
type (
	// Call stands as a statement, too.
	Call struct {
		Name
		Values []Node
	}
	// Variable is a variable that is used.
	Variable struct {
		Name
	}
	// Number is an Int as a source can write it: never below 0.
	Number struct {
		Place
		Value int64
	}
	// String is a Str, without its quotes.
	String struct {
		Place
		Text string
	}
	// Bool is true or false.
	Bool struct {
		Place
		Value bool
	}
	// List is a list that is written out.
	List struct {
		Place
		Values []Node
	}
	// Index is Whole[At].
	Index struct {
		Place
		Whole, At Node
	}
	// Unary has the operator as it is written.
	Unary struct {
		Place
		Operator string
		Operand  Node
	}
	// Binary has the operator as it is written.
	Binary struct {
		Place
		Operator    string
		Left, Right Node
	}
)
