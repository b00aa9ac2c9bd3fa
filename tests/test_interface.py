import importlib
import unittest

# The functions of the interface, by the module that defines them.
FUNCTIONS = {
    "archway.texts": (
        "fault_of", "check_text", "arches", "depths", "is_balanced", "children_of", "row_of",
    ),
    "archway.notation": ("format_text", "parse_text"),
    "archway.readers": ("fault", "value_behind", "value", "accepts"),
    "archway.joined": ("denied", "joint"),
    "archway.values": ("values", "numbered"),
    "archway.shortest": ("lengths", "text_of", "shortest", "together", "parting"),
    "archway.least": ("leaders", "least", "same_texts", "parting_context"),
    "archway.meaning": ("is_valid", "depth_of", "size_of", "holds"),
    "archway.parsing": ("read_sentence",),
    "archway.printing": ("write_sentence",),
    "archway.marked": ("width", "marked_labels", "marked", "unmarked"),
    "archway.parts": ("uses", "is_true_at"),
    "archway.sentences": ("sentence_reader", "reader_with"),
    "archway.walks": ("walk_for", "sentence_for", "sets_for"),
    "archway.machines": (
        "configurations", "takes", "table_of", "machine_reader", "machine_for", "is_deterministic",
    ),
    "archway.questions": ("meant", "meant_count", "meant_at", "meant_pairs"),
}

METHODS = (
    "__init__", "text", "keep_statement", "keep_question", "names", "holds", "meant", "insert", "remove",
    "surround", "dissolve", "relabel", "rewrite", "undo", "redo", "edits", "undone", "made",
)


class Interface(unittest.TestCase):
    def test_each_function_is_defined_in_its_file(self):
        for module, names in FUNCTIONS.items():
            for name in names:
                with self.subTest(module=module, name=name):
                    function = getattr(importlib.import_module(module), name)
                    self.assertEqual((function.__name__, function.__module__), (name, module))

    def test_the_methods_of_documents_are_defined_in_their_class(self):
        module = importlib.import_module("archway.documents")
        self.assertEqual(module.Document.__module__, "archway.documents")
        for name in METHODS:
            self.assertIn(name, vars(module.Document))

    def test_the_attributes_of_documents_are_set_when_they_are_created(self):
        document = importlib.import_module("archway.documents").Document((1, 2, 3), [])
        self.assertEqual(document.labels, (1, 2, 3))
        self.assertIn("labels", vars(document))


if __name__ == "__main__":
    unittest.main()
