"""The limits for what is passed in, and for what is handed out."""

ROW_LIMIT = 60
TEXT_LIMIT = 1200
BUDGET_LIMIT = 60
TREE_LIMIT = 4000
BOOK_LIMIT = 60
CUSTOM_LIMIT = 400
