"""Tables with references: rules, statements, what removing takes along."""
